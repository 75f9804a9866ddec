import Derived.Test.YtdkepkaflielhaaGreatDoorMerged5
set_option linter.unusedVariables false
set_option linter.unusedSimpArgs false
set_option maxRecDepth 100000
set_option maxHeartbeats 8000000
/- SPort: what the specification's l08Port answers. Printed by mksport.py. -/
namespace Go.Proofs.YtdkepkaflielhaaGreatDoor
open Go.RowKit Go.PlainAid
set_option linter.unusedVariables false
set_option linter.unusedSimpArgs false

/-- The boxes of l08Port:the pool,the bib,the bind that is told. -/
structure kL(w:World)(p:Pl)(x:Bb)(pa:OA)(pc:Nat)(a b:OA)(ca cb:Nat)(wx:World):Prop where
 p:aA wx w.heap.size [.slice pa p.VA.length pc,iV p.low,iV p.high,iV p.most,iV p.filter,iV p.lv.udp,iV p.lv.echo,iV p.lv.opening,iV p.lv.opn,iV p.lv.closing]
 x:aA wx (w.heap.size + 1) [.slice a x.VC.length ca,.slice b x.UZ.length cb]
 r:aA wx (w.heap.size + 1 + 1) [iV 0,eS,iV 0,eS,iV 0]
 b:Below w.heap.size w wx
theorem kL.kept{w:World}{p:Pl}{x:Bb}{pa:OA}{pc:Nat}{a b:OA}{ca cb:Nat}{wx wy:World}(h:kL w p x pa pc a b ca cb wx)(hB:Below wx.heap.size wx wy):kL w p x pa pc a b ca cb wy :=
 ⟨h.p.kept (by simp) hB,h.x.kept (by simp) hB,h.r.kept (by simp) hB,h.b.trans (hB.mono h.b.size)⟩
theorem kL.setY{w:World}{p:Pl}{x:Bb}{pa:OA}{pc:Nat}{a b:OA}{ca cb:Nat}{wx:World}(h:kL w p x pa pc a b ca cb wx){Y:Nat}(hY:w.heap.size + 1 + 1 < Y)(j:Nat)(v:Value):kL w p x pa pc a b ca cb (wx.setCell ⟨Y,j,none⟩ v) :=
 ⟨h.p.setOther (by omega) v,h.x.setOther (by omega) v,h.r.setOther (by omega) v,h.b.setCell (p := ⟨Y,j,none⟩) (by show w.heap.size ≤ Y;omega) v⟩
theorem kL.drewK{w:World}{p:Pl}{x:Bb}{pa:OA}{pc:Nat}{a b:OA}{ca cb:Nat}{wx:World}(h:kL w p x pa pc a b ca cb wx):kL w p x pa pc a b ca cb wx.drew := ⟨h.p.drew,h.x.drew,h.r.drew,h.b.drew⟩

set_option maxRecDepth 100000 in
set_option maxHeartbeats 4000000 in
theorem IC(p:Pl)(x:Bb)(pa:OA)(pc:Nat)(a b:OA)(ca cb:Nat)(UU:Int)(inn:BA)(port:Int)(w:World)(hpo:cT p = true)(hin:inn.size ≤ 1048576)(h0:0 ≤ port)(h1:port ≤ 65535)(hl1:x.VC.length ≤ 1048576)(hl2:x.UZ.length ≤ 1048576)(hp:bP bX 1 w pa p.VA)(hr:dI w a b x) :
  Cb 178 #[jQ pa pc p,iQ a b ca cb x,iV UU,.string inn,iV port] w (.tuple #[jI (gG p x.VC UU inn port).1,iV (gG p x.VC UU inn port).2]) := by
 have hpb:1 ≤ p.VA.length ∧ p.VA.length ≤ 8 ∧ 1 ≤ p.low ∧ p.low ≤ p.high ∧ p.high ≤ 65535 := by
  unfold cT at hpo;simp only[TP,TU]at hpo;omega
 obtain⟨hp1,hp8,hlo,hlh,hhi⟩:= hpb
 clear hpo
 have HST:Hid (kL w p x pa pc a b ca cb ((aW (aW w [.slice pa p.VA.length pc,iV p.low,iV p.high,iV p.most,iV p.filter,iV p.lv.udp,iV p.lv.echo,iV p.lv.opening,iV p.lv.opn,iV p.lv.closing] 27) [.slice a x.VC.length ca,.slice b x.UZ.length cb] 31).alloc (.cells #[iV 0,eS,iV 0,eS,iV 0] 48))) := by
  have H0 := ((aA.new w [.slice pa p.VA.length pc,iV p.low,iV p.high,iV p.most,iV p.filter,iV p.lv.udp,iV p.lv.echo,iV p.lv.opening,iV p.lv.opn,iV p.lv.closing] 27).alloc (.cells #[.slice a x.VC.length ca,.slice b x.UZ.length cb] 31)).alloc (.cells #[iV 0,eS,iV 0,eS,iV 0] 48)
  have H1 := (aA.new (w.alloc (.cells #[.slice pa p.VA.length pc,iV p.low,iV p.high,iV p.most,iV p.filter,iV p.lv.udp,iV p.lv.echo,iV p.lv.opening,iV p.lv.opn,iV p.lv.closing] 27)) [.slice a x.VC.length ca,.slice b x.UZ.length cb] 31).alloc (.cells #[iV 0,eS,iV 0,eS,iV 0] 48)
  have H2 := aA.new ((aW w [.slice pa p.VA.length pc,iV p.low,iV p.high,iV p.most,iV p.filter,iV p.lv.udp,iV p.lv.echo,iV p.lv.opening,iV p.lv.opn,iV p.lv.closing] 27).alloc (.cells #[.slice a x.VC.length ca,.slice b x.UZ.length cb] 31)) [iV 0,eS,iV 0,eS,iV 0] 48
  rw[TQ]at H1 H2
  rw[TQ]at H2
  exact⟨H0,H1,H2,((bR.alloc lR _).alloc (by simp) _).alloc (by simp;omega) _⟩
 have HBI:Hid (∀W,Below w.heap.size w W → Cb 33 #[.agg #[.slice a x.VC.length ca,.slice b x.UZ.length cb],iV UU,.string inn,iV port] W (iV (bG (cD UU inn port) x.VC))) := fun W hW=>mU x.VC UU inn port a ca _ W hl1 (hr.bd.below hW)
 have HAT:Hid (∀o n W,Below w.heap.size w W → Cb 156 #[.agg #[.slice a x.VC.length ca,.slice b x.UZ.length cb],iV UU,.string o,iV n] W (iV (bG (dE UU o n) x.VC))) := fun o n W hW=>DZ x.VC UU o n a ca _ W hl1 (hr.bd.below hW)
 have HSM:Hid (∀W,Cb 70 #[.string inn] W (iV (bI inn))) := fun W=>(kT inn W (by omega)).mono fun e w' h=>⟨h.1,by rw[h.2];exact Below.refl _ _⟩
 have HIS:Hid (∀W,Cw 40 #[iV port,iV p.low,iV p.high] W (.bool (aM port p.low p.high))) := fun W=>fD _ _ _ W
 have hsr := cV inn
 have HV:Hid (gG p x.VC UU inn port = gG p x.VC UU inn port) := rfl
 obtain⟨ans,hans⟩: ∃y,y = gG p x.VC UU inn port := ⟨_,rfl⟩
 rw[←hans]
 have HA:Hid (ans = gG p x.VC UU inn port) := hans
 have HR:Hid (dI w a b x) := hr
 have HP:Hid (bP bX 1 w pa p.VA) := hp
 unfold jQ iQ
 clear hp hr hans HV
 go_enter Tryz.func178,Tryz.ntmps178
 go_upto_region 1 with fail
 generalize ((aW (aW w [.slice pa p.VA.length pc,iV p.low,iV p.high,iV p.most,iV p.filter,iV p.lv.udp,iV p.lv.echo,iV p.lv.opening,iV p.lv.opn,iV p.lv.closing] 27) [.slice a x.VC.length ca,.slice b x.UZ.length cb] 31).alloc (.cells #[iV 0,eS,iV 0,eS,iV 0] 48)) = W3 at *
 obtain⟨k0,k1⟩:= HST.out.x.c2
 go_wp2_with fail
 refine(HBI.out _ HST.out.b).mono ?_
 rintro e w1 ⟨rfl,q1⟩
 have S1:Hid _ := HST.out.kept q1
 clear q1 k0 k1 HST HBI
 by_cases hf:bG (cD UU inn port) x.VC < 0
 ·have hno := zT _ _ hf
  have HAN:Hid (ans = match jE p x.VC UU (dQ x.VC (jL p inn) inn) port with | some n=>(⟨UU,inn,port,dQ x.VC (jL p inn) inn,n⟩,0) | none=>(lT,9)) := by unfold Hid;rw[HA.out];unfold gG;rw[hno];rfl
  have hf':¬0 ≤ bG (cD UU inn port) x.VC := by omega
  generalize bG (cD UU inn port) x.VC = fi at *
  clear hno HA
  go_upto_region 4 with fail
  -- the address by the sum
  obtain⟨ix,hix⟩: ∃ix:Nat,ix = (bI inn).toNat % p.VA.length := ⟨_,rfl⟩
  have hixl:ix < p.VA.length := by rw[hix];exact Nat.mod_lt _ (by omega)
  have hrem:(bI inn) % (p.VA.length:Int) = (ix:Int) := by
   obtain⟨n,hn⟩:= TZ hsr.1
   rw[hix,hn,Int.toNat_natCast];rfl
  obtain⟨bp,op,rfl,hbp,hatp⟩:= HP.out.at hixl
  have HPI:Hid (∀W,Below w.heap.size w W → W.cell? ⟨bp,op + ix,none⟩ = some (.string (jL p inn))) := fun W hW=>by
   have h := (hatp.below hbp hW) ix hixl 0 _ rfl
   have e:jL p inn = p.VA[ix] := by unfold jL;rw[←hix,UJ hixl];rfl
   rw[e];simpa using h
  have hixI:(ix:Int) < (p.VA.length:Int) := by omega
  have hlen0:¬(p.VA.length:Int) = 0 := by omega
  have hnil:¬p.VA = [] := fun e=>by rw[e]at hp1;simp at hp1
  have hrem2:(bI inn).tmod (p.VA.length:Int) = (ix:Int) := by rw[Int.tmod_eq_emod_of_nonneg hsr.1];exact hrem
  have HDD:Hid (jL p inn = jL p inn) := rfl
  generalize jL p inn = od at *
  generalize bI inn = sv at *
  clear hatp hbp hix HDD
  go_cut [13] (fun v wx=>v = .string od ∧ Below w1.heap.size w1 wx)
  case first=>
   rename_i J K2 hJ hK2
   refine aN [30,31,32,33,34,35,36,37,38,39] (by kernel_rfl) (by kernel_rfl) ?_
   apply bC.v0
   ·rfl
   ·intro K' a wy ho hd hb hK kz
    have o5 := ho 5 (by decide)
    simp[aD]at o5
    clear hd ho
    go_simp
    try go_bits
    exact kz _ rfl
   apply bC.v1
   ·rfl
   ·intro K' a wy ho hd hb hK kz
    have q0 := hd ⟨0,.data⟩ (by simp) rfl
    simp[aS,aF,aD]at q0
    clear hd ho
    have kx := (S1.out.drewK.kept hb);have kp := kx.p.cell (j := 0) rfl;have ki := HPI.out wy kx.b;clear kx
    go_simp
    try go_bits
    exact kz _ rfl
   apply bC.v2
   ·rfl
   ·intro K' a wy ho hd hb hK kz
    have o3 := ho 3 (by decide)
    simp[aD]at o3
    clear hd ho
    go_simp
    try go_bits
    exact kz _ rfl
   apply bC.v3
   ·rfl
   ·intro K' a wy ho hd hb hK kz
    have q2 := hd ⟨2,.data⟩ (by simp) rfl
    simp[aS,aF,aD]at q2
    clear hd ho
    go_simp
    refine(HSM.out wy).mono ?_
    rintro e wz ⟨rfl,hz⟩
    exact hK _ _ rfl hz
   apply bC.v4
   ·rfl
   ·intro K' a wy ho hd hb hK kz
    have o5 := ho 5 (by decide)
    simp[aD]at o5
    clear hd ho
    go_simp
    try go_bits
    exact kz _ rfl
   apply bC.v5
   ·rfl
   ·intro K' a wy ho hd hb hK kz
    have q4 := hd ⟨4,.data⟩ (by simp) rfl
    simp[aS,aF,aD]at q4
    clear hd ho
    have kx := (S1.out.drewK.kept hb);have kp := kx.p.cell (j := 0) rfl;have ki := HPI.out wy kx.b;clear kx
    go_simp
    try go_bits
    exact kz _ rfl
   apply bC.v6
   ·rfl
   ·intro K' a wy ho hd hb hK kz
    have q5 := hd ⟨5,.data⟩ (by simp) rfl
    simp[aS,aF,aD]at q5
    clear hd ho
    go_simp
    try go_bits
    exact kz _ rfl
   apply bC.v7
   ·rfl
   ·intro K' a wy ho hd hb hK kz
    have q3 := hd ⟨3,.data⟩ (by simp) rfl
    simp[aS,aF,aD]at q3
    have q6 := hd ⟨6,.data⟩ (by simp) rfl
    simp[aS,aF,aD]at q6
    clear hd ho
    go_simp
    try go_bits
    exact kz _ rfl
   apply bC.v8
   ·rfl
   ·intro K' a wy ho hd hb hK kz
    have q1 := hd ⟨1,.data⟩ (by simp) rfl
    simp[aS,aF,aD]at q1
    have q7 := hd ⟨7,.data⟩ (by simp) rfl
    simp[aS,aF,aD]at q7
    clear hd ho
    go_simp
    try go_bits
    exact kz _ rfl
   apply bC.v9
   ·rfl
   ·intro K' a wy ho hd hb hK kz
    have q8 := hd ⟨8,.data⟩ (by simp) rfl
    simp[aS,aF,aD]at q8
    clear hd ho
    have kx := (S1.out.drewK.kept hb);have kp := kx.p.cell (j := 0) rfl;have ki := HPI.out wy kx.b;clear kx
    go_simp
    try go_bits
    exact kz _ rfl
   intro X wz hR hz
   obtain⟨x0,x1,x2,x3,x4,x5,x6,x7,x8,x9,-⟩:= hR
   simp only[aF]at x0 x1 x2 x3 x4 x5 x6 x7 x8 x9
   simp only[aE,x0,x1,x2,x3,x4,x5,x6,x7,x8,x9]
   clear x0 x1 x2 x3 x4 x5 x6 x7 x8 x9
   simp only[List.length_cons,List.length_nil,List.drop_succ_cons,List.drop_zero,TX,Nat.reduceAdd]
   intro K9 hK9
   go_simp
   refine hK9 _ _ ?_
   show Exit.then _ _ _ _ _
   refine hK2 _ _ (hJ _ _ ?_)
   (repeat apply Exists.intro)
   refine⟨⟨rfl,(Below.refl _ w1).drew.trans hz⟩,rfl⟩
  case rest=>
   obtain⟨rfl,hb4⟩:= hcut
   have S4:Hid _ := S1.out.kept hb4
   clear hb4 S1 HSM HPI hrem hrem2
   generalize wc = w4 at *
   have k0 := S4.out.x.cell (j := 0) rfl
   go_wp2_with fail
   go_loopw [13,14] (fun ov iv wr=> ∃i:Nat,i ≤ x.VC.length ∧ iv = iV ((i:Int) - 1) ∧ ov = .string (dQ (x.VC.drop i) od inn) ∧ kL w p x (some ⟨bp,op,none⟩) pc a b ca cb wr) (fun _ iv _=>(intOf iv + 1).toNat)
   case atStart=>exact⟨x.VC.length,Nat.le_refl _,rfl,by rw[List.drop_length];rfl,S4.out⟩
   case round=>
    obtain⟨i,hi,rfl,rfl,hS⟩:= hrel
    have S5:Hid _ := hS
    have k0 := hS.x.cell (j := 0) rfl
    clear hS S4
    by_cases hi0:0 < i
    ·obtain⟨j,rfl⟩: ∃j,i = j + 1 := ⟨i - 1,by omega⟩
     have hjl:j < x.VC.length := by omega
     obtain⟨bb,ob,rfl,hbb,hatb⟩:= HR.out.bd.at hjl
     have hA := (hatb.below hbb S5.out.b) j hjl
     have HOS:Hid _ := GS (d := od) (inn := inn) hjl
     obtain⟨q,hq⟩: ∃q,q = x.VC[j] := ⟨_,rfl⟩
     rw[←hq]at hA HOS
     have c1:wr.cell? ⟨bb,ob + j * 5 + 1,none⟩ = some (.string q.inn) := hA 1 _ rfl
     have c3:wr.cell? ⟨bb,ob + j * 5 + 3,none⟩ = some (.string q.out) := hA 3 _ rfl
     have hji:((j + 1:Nat):Int) - 1 = (j:Int) := by omega
     rw[hji]
     have hjn:0 ≤ (j:Int) := by omega
     clear hA hatb hbb hq
     by_cases he:q.inn.toList = inn.toList
     ·have hb := gJ he
      have HON:Hid (dQ (x.VC.drop j) od inn = q.out) := by unfold Hid;rw[HOS.out];unfold cQ;rw[if_pos (TT he)]
      clear he
      go_wp2_with fail
      go_roundw
      case rel=>exact⟨j,by omega,by go_num,by rw[HON.out],S5.out⟩
      case measure=>simp[intOf] <;> omega
     ·have hb := oF he
      have HON:Hid (dQ (x.VC.drop j) od inn = dQ (x.VC.drop (j + 1)) od inn) := by unfold Hid;rw[HOS.out];unfold cQ;rw[if_neg (by simp[he])]
      clear he
      go_wp2_with fail
      go_roundw
      case rel=>exact⟨j,by omega,by go_num,by rw[HON.out],S5.out⟩
      case measure=>simp[intOf] <;> omega
    ·have hie:i = 0 := by omega
     subst hie
     rw[List.drop_zero]
     obtain⟨ou,hou⟩: ∃ou,ou = dQ x.VC od inn := ⟨_,rfl⟩
     rw[←hou]at HAN ⊢
     clear hou k0
     have B5:Hid (Below wr.heap.size wr (wr.alloc (.cells #[iV UU,.string inn,iV port,.string ou,iV port] 48))) := bR.alloc lR _
     have Y5:Hid (aA (wr.alloc (.cells #[iV UU,.string inn,iV port,.string ou,iV port] 48)) wr.heap.size [iV UU,.string inn,iV port,.string ou,iV port]) := aA.new wr [iV UU,.string inn,iV port,.string ou,iV port] 48
     have hyr:Hid (w.heap.size + 1 + 1 < wr.heap.size) := S5.out.r.lt (by simp)
     go_upto_region 11 with fail
     have S6:Hid _ := S5.out.kept B5.out
     have hYl:wr.heap.size < (wr.alloc (.cells #[iV UU,.string inn,iV port,.string ou,iV port] 48)).heap.size := by simp
     have hYne:w.heap.size + 1 + 1 ≠ wr.heap.size := by have := hyr.out;omega
     generalize (wr.alloc (.cells #[iV UU,.string inn,iV port,.string ou,iV port] 48)) = W6 at *
     generalize wr.heap.size = Y at *
     have hYY:Hid (w.heap.size + 1 + 1 < Y) := hyr.out
     have HTW:Hid (∀n V,kL w p x (some ⟨bp,op,none⟩) pc a b ca cb V → aA V Y [iV UU,.string inn,iV port,.string ou,iV n] → aA (((((V.setCell ⟨w.heap.size + 1 + 1,0,none⟩ (iV UU)).setCell ⟨w.heap.size + 1 + 1,1,none⟩ (.string inn)).setCell ⟨w.heap.size + 1 + 1,2,none⟩ (iV port)).setCell ⟨w.heap.size + 1 + 1,3,none⟩ (.string ou)).setCell ⟨w.heap.size + 1 + 1,4,none⟩ (iV n)) (w.heap.size + 1 + 1) [iV UU,.string inn,iV port,.string ou,iV n] ∧ Below w.heap.size w (((((V.setCell ⟨w.heap.size + 1 + 1,0,none⟩ (iV UU)).setCell ⟨w.heap.size + 1 + 1,1,none⟩ (.string inn)).setCell ⟨w.heap.size + 1 + 1,2,none⟩ (iV port)).setCell ⟨w.heap.size + 1 + 1,3,none⟩ (.string ou)).setCell ⟨w.heap.size + 1 + 1,4,none⟩ (iV n))) := fun n V hS hY=>
      ⟨((((hS.r.set 0 (iV UU)).set 1 (.string inn)).set 2 (iV port)).set 3 (.string ou)).set 4 (iV n),((((hS.b.setCell (p := ⟨w.heap.size + 1 + 1,0,none⟩) (by show w.heap.size ≤ w.heap.size + 1 + 1;omega) _).setCell (p := ⟨w.heap.size + 1 + 1,1,none⟩) (by show w.heap.size ≤ w.heap.size + 1 + 1;omega) _).setCell (p := ⟨w.heap.size + 1 + 1,2,none⟩) (by show w.heap.size ≤ w.heap.size + 1 + 1;omega) _).setCell (p := ⟨w.heap.size + 1 + 1,3,none⟩) (by show w.heap.size ≤ w.heap.size + 1 + 1;omega) _).setCell (p := ⟨w.heap.size + 1 + 1,4,none⟩) (by show w.heap.size ≤ w.heap.size + 1 + 1;omega) _⟩
     have HFR:Hid (∀n,dN x.VC UU ou n = decide (bG (dE UU ou n) x.VC < 0)) := fun _=>rfl
     have HLN:Hid (jE p x.VC UU ou port = if (aM port p.low p.high && dN x.VC UU ou port) = true then some port else match cK (fun n=>decide (n % 2 = port % 2) && dN x.VC UU ou n) p.low (p.high - p.low + 1).toNat with | some n=>some n | none=>cK (dN x.VC UU ou) p.low (p.high - p.low + 1).toNat) := rfl
     obtain⟨-,z1,z2⟩:= S6.out.p.c3
     obtain⟨k0,k1⟩:= S6.out.x.c2
     clear S5 B5
     go_cut [81] (fun v wx=>v = .bool (aM port p.low p.high && dN x.VC UU ou port) ∧ Below W6.heap.size W6 wx)
     case first=>
      have hun:undef = Value.tuple #[] := rfl
      cases hisb:aM port p.low p.high with
      | false=>
       go_wp2_with fail
       refine(HIS.out _).mono ?_
       rw[hisb]
       rintro e w7 ⟨rfl,rfl⟩
       go_wp2_with fail
       go_meet
       exact⟨by rw[hisb];rfl,Below.refl _ _⟩
      | true=>
       go_wp2_with fail
       refine(HIS.out _).mono ?_
       rw[hisb]
       rintro e w7 ⟨rfl,rfl⟩
       go_wp2_with fail
       refine(HAT.out ou port _ S6.out.b).mono ?_
       rintro e w8 ⟨rfl,q8⟩
       have Q8:Hid _ := q8
       have HFP:Hid (dN x.VC UU ou port = decide (bG (dE UU ou port) x.VC < 0)) := HFR.out port
       clear q8
       generalize bG (dE UU ou port) x.VC = fp at *
       by_cases hfp:fp < 0
       ·go_wp2_with fail
        go_meet
        exact⟨by rw[hisb,HFP.out];simp[hfp],Q8.out⟩
       ·go_wp2_with fail
        go_meet
        exact⟨by rw[hisb,HFP.out];simp[hfp],Q8.out⟩
     case rest=>
      obtain⟨rfl,hb7⟩:= hcut
      have S7:Hid _ := S6.out.kept hb7
      have Y7:Hid _ := Y5.out.kept (by simp) hb7
      clear hb7 S6 Y5 z1 z2 k0 k1 HIS
      cases hc7:(aM port p.low p.high && dN x.VC UU ou port) with
      | true=>
       have HAN2:Hid (ans = (⟨UU,inn,port,ou,port⟩,0)) := by unfold Hid;rw[HAN.out,HLN.out,hc7];rfl
       obtain⟨y0,y1,y2,y3,y4⟩:= Y7.out.c5
       obtain⟨r0,r1,r2,r3,r4⟩:= S7.out.r.c5
       obtain⟨f0,f1,f2,f3,f4⟩:= S7.out.r.f5
       obtain⟨t1,t2⟩:= HTW.out port wc S7.out Y7.out
       have T1:Hid _ := t1
       have T2:Hid _ := t2
       clear t1 t2
       go_wp2_with fail
       have u0 := T1.out.cell (j := 0) (v := iV UU) rfl
       have u1 := T1.out.cell (j := 1) (v := .string inn) rfl
       have u2 := T1.out.cell (j := 2) (v := iV port) rfl
       have u3 := T1.out.cell (j := 3) (v := .string ou) rfl
       have u4 := T1.out.cell (j := 4) (v := iV port) rfl
       refine UQ (v := .tuple #[.agg #[iV UU,.string inn,iV port,.string ou,iV port],iV 0]) (by simp[results,Tryz.results178,go_sem,u0,u1,u2,u3,u4]) rfl ?_
       exact⟨by rw[HAN2.out];rfl,T2.out⟩
      | false=>
       rw[hc7,if_neg (by decide)]at HLN
       go_wp2_with fail
       go_loopw [16] (fun tv wr=> ∃t:Nat,t ≤ 2 ∧ tv = iV t ∧ (1 ≤ t → cK (fun n=>decide (n % 2 = port % 2) && dN x.VC UU ou n) p.low (p.high - p.low + 1).toNat = none) ∧ (2 ≤ t → cK (dN x.VC UU ou) p.low (p.high - p.low + 1).toNat = none) ∧ kL w p x (some ⟨bp,op,none⟩) pc a b ca cb wr ∧ aA wr Y [iV UU,.string inn,iV port,.string ou,iV port]) (fun tv _=>2 - (intOf tv).toNat)
       case atStart=>exact⟨0,by omega,rfl,fun h=>by omega,fun h=>by omega,S7.out,Y7.out⟩
       case round=>
        obtain⟨t,ht,rfl,hn0,hn1,hS,hY⟩:= hrel
        have N0:Hid (1 ≤ t → cK (fun n=>decide (n % 2 = port % 2) && dN x.VC UU ou n) p.low (p.high - p.low + 1).toNat = none) := hn0
        have N1:Hid (2 ≤ t → cK (dN x.VC UU ou) p.low (p.high - p.low + 1).toNat = none) := hn1
        have S8:Hid _ := hS
        have Y8:Hid _ := hY
        clear hn0 hn1 hS hY S7 Y7
        generalize wr = w9 at *
        by_cases htl:t < 2
        ·obtain⟨f,hfd⟩: ∃f:Int → Bool,f = if t = 0 then (fun n=>decide (n % 2 = port % 2) && dN x.VC UU ou n) else (dN x.VC UU ou) := ⟨_,rfl⟩
         have HFD:Hid (f = if t = 0 then (fun n=>decide (n % 2 = port % 2) && dN x.VC UU ou n) else (dN x.VC UU ou)) := hfd
         have z1 := S8.out.p.cell (j := 1) rfl
         have htI:(t:Int) < 2 := by omega
         clear hfd
         go_wp2_with fail
         go_loopw [17] (fun nv wr=> ∃n:Int,p.low ≤ n ∧ n ≤ p.high + 1 ∧ nv = iV n ∧ cK f p.low (p.high - p.low + 1).toNat = cK f n (p.high - n + 1).toNat ∧ kL w p x (some ⟨bp,op,none⟩) pc a b ca cb wr ∧ aA wr Y [iV UU,.string inn,iV port,.string ou,iV port]) (fun nv _=>(p.high + 1 - intOf nv).toNat)
         case atStart=>exact⟨p.low,by omega,by omega,rfl,rfl,S8.out,Y8.out⟩
         case round=>
          obtain⟨n,hn1,hn2,rfl,hle,hS,hY⟩:= hrel
          have HLE:Hid (cK f p.low (p.high - p.low + 1).toNat = cK f n (p.high - n + 1).toNat) := hle
          have S9:Hid _ := hS
          have Y9:Hid _ := hY
          have z2 := hS.p.cell (j := 2) rfl
          obtain⟨k0,k1⟩:= hS.x.c2
          clear hle hS hY S8 Y8 z1
          by_cases hnl:n ≤ p.high
          ·have HSTP:Hid _ := nE (f := f) hnl
           have hn0:0 ≤ n := by omega
           have hn3:n ≤ 65535 := by omega
           go_upto_region 19 with fail
           go_cut [111] (fun v wx=>v = .bool (f n) ∧ Below wr.heap.size wr wx)
           case first=>
            have hun:undef = Value.tuple #[] := rfl
            have HFP:Hid (dN x.VC UU ou n = decide (bG (dE UU ou n) x.VC < 0)) := HFR.out n
            by_cases ht0:t = 0
            ·subst ht0
             have HFN:Hid (f n = (decide (n % 2 = port % 2) && dN x.VC UU ou n)) := by unfold Hid;rw[HFD.out];rfl
             by_cases hpar:n % 2 = port % 2
             ·go_wp2_with fail
              refine(HAT.out ou n _ S9.out.b).mono ?_
              rintro e wa ⟨rfl,qa⟩
              have QA:Hid _ := qa
              clear qa
              generalize bG (dE UU ou n) x.VC = fp at *
              by_cases hfp:fp < 0
              ·go_wp2_with fail
               go_meet
               exact⟨by rw[HFN.out,HFP.out] <;> simp[hfp,hpar],QA.out⟩
              ·go_wp2_with fail
               go_meet
               exact⟨by rw[HFN.out,HFP.out] <;> simp[hfp,hpar],QA.out⟩
             ·go_wp2_with fail
              go_meet
              exact⟨by rw[HFN.out];simp[hpar],Below.refl _ _⟩
            ·have ht1:t = 1 := by omega
             subst ht1
             have HFN:Hid (f n = dN x.VC UU ou n) := by unfold Hid;rw[HFD.out];rfl
             go_wp2_with fail
             refine(HAT.out ou n _ S9.out.b).mono ?_
             rintro e wa ⟨rfl,qa⟩
             have QA:Hid _ := qa
             clear qa
             generalize bG (dE UU ou n) x.VC = fp at *
             by_cases hfp:fp < 0
             ·go_wp2_with fail
              go_meet
              exact⟨by rw[HFN.out,HFP.out] <;> simp[hfp],QA.out⟩
             ·go_wp2_with fail
              go_meet
              exact⟨by rw[HFN.out,HFP.out] <;> simp[hfp],QA.out⟩
           case rest=>
            obtain⟨rfl,hba⟩:= hcut
            have SA:Hid _ := S9.out.kept hba
            have YA:Hid _ := Y9.out.kept (by simp) hba
            clear hba S9 Y9 z2 k0 k1
            cases hfn:f n with
            | true=>
             have HLN2:Hid (jE p x.VC UU ou port = some n) := by
              have e1:cK f p.low (p.high - p.low + 1).toNat = some n := by rw[HLE.out,HSTP.out,if_pos hfn]
              unfold Hid
              rw[HLN.out]
              by_cases ht0:t = 0
              ·have e2:f = (fun n=>decide (n % 2 = port % 2) && dN x.VC UU ou n) := by rw[HFD.out,if_pos ht0]
               rw[←e2,e1]
              ·have e2:f = (dN x.VC UU ou) := by rw[HFD.out,if_neg ht0]
               rw[N0.out (by omega),←e2,e1]
             have HAN2:Hid (ans = (⟨UU,inn,port,ou,n⟩,0)) := by unfold Hid;rw[HAN.out,HLN2.out]
             have v4 := YA.out.cell (j := 4) rfl
             have g4 := YA.out.free (j := 4) (by simp)
             have SB:Hid _ := SA.out.setY hYY.out 4 (iV n)
             have YB:Hid (aA (wc.setCell ⟨Y,4,none⟩ (iV n)) Y [iV UU,.string inn,iV port,.string ou,iV n]) := YA.out.set 4 (iV n)
             clear hfn
             go_upto_region 21 with fail
             generalize wc.setCell ⟨Y,4,none⟩ (iV n) = WB at *
             clear v4 g4
             obtain⟨y0,y1,y2,y3,y4⟩:= YB.out.c5
             obtain⟨r0,r1,r2,r3,r4⟩:= SB.out.r.c5
             obtain⟨f0,f1,f2,f3,f4⟩:= SB.out.r.f5
             obtain⟨t1,t2⟩:= HTW.out n WB SB.out YB.out
             have T1:Hid _ := t1
             have T2:Hid _ := t2
             clear t1 t2
             go_wp2_with fail
             have u0 := T1.out.cell (j := 0) (v := iV UU) rfl
             have u1 := T1.out.cell (j := 1) (v := .string inn) rfl
             have u2 := T1.out.cell (j := 2) (v := iV port) rfl
             have u3 := T1.out.cell (j := 3) (v := .string ou) rfl
             have u4 := T1.out.cell (j := 4) (v := iV n) rfl
             refine UQ (v := .tuple #[.agg #[iV UU,.string inn,iV port,.string ou,iV n],iV 0]) (by simp[results,Tryz.results178,go_sem,u0,u1,u2,u3,u4]) rfl ?_
             exact⟨by rw[HAN2.out];rfl,T2.out⟩
            | false=>
             have HL2:Hid (cK f p.low (p.high - p.low + 1).toNat = cK f (n + 1) (p.high - (n + 1) + 1).toNat) := by unfold Hid;rw[HLE.out,HSTP.out,if_neg (by rw[hfn];decide)]
             clear hfn
             go_wp2_with fail
             go_roundw
             case rel=>exact⟨n + 1,by omega,by omega,rfl,HL2.out,SA.out,YA.out⟩
             case measure=>simp[intOf] <;> omega
          ·have HNO:Hid (cK f p.low (p.high - p.low + 1).toNat = none) := by unfold Hid;rw[HLE.out];exact rK (by omega)
           go_wp2_with fail
           go_roundw
           case rel=>
            refine⟨t + 1,by omega,by go_num,fun h=> ?_,fun h=> ?_,S9.out,Y9.out⟩
            ·by_cases ht0:t = 0
             ·have := HNO.out;rw[HFD.out,if_pos ht0]at this;exact this
             ·exact N0.out (by omega)
            ·have ht0:¬t = 0 := by omega
             have := HNO.out;rw[HFD.out,if_neg ht0]at this;exact this
           case measure=>simp[intOf] <;> omega
        ·have ht2:t = 2 := by omega
         subst ht2
         have HAN2:Hid (ans = (lT,9)) := by unfold Hid;rw[HAN.out,HLN.out,N0.out (by omega),N1.out (by omega)]
         obtain⟨r0,r1,r2,r3,r4⟩:= S8.out.r.c5
         obtain⟨f0,f1,f2,f3,f4⟩:= S8.out.r.f5
         have T1:Hid _ := (((((S8.out.r.set 0 (iV 0)).set 1 eS).set 2 (iV 0)).set 3 eS).set 4 (iV 0))
         have T2:Hid _ := (((((S8.out.b.setCell (p := ⟨w.heap.size + 1 + 1,0,none⟩) (by show w.heap.size ≤ w.heap.size + 1 + 1;omega) (iV 0)).setCell (p := ⟨w.heap.size + 1 + 1,1,none⟩) (by show w.heap.size ≤ w.heap.size + 1 + 1;omega) eS).setCell (p := ⟨w.heap.size + 1 + 1,2,none⟩) (by show w.heap.size ≤ w.heap.size + 1 + 1;omega) (iV 0)).setCell (p := ⟨w.heap.size + 1 + 1,3,none⟩) (by show w.heap.size ≤ w.heap.size + 1 + 1;omega) eS).setCell (p := ⟨w.heap.size + 1 + 1,4,none⟩) (by show w.heap.size ≤ w.heap.size + 1 + 1;omega) (iV 0))
         go_wp2_with fail
         have u0 := T1.out.cell (j := 0) (v := iV 0) rfl
         have u1 := T1.out.cell (j := 1) (v := eS) rfl
         have u2 := T1.out.cell (j := 2) (v := iV 0) rfl
         have u3 := T1.out.cell (j := 3) (v := eS) rfl
         have u4 := T1.out.cell (j := 4) (v := iV 0) rfl
         refine UQ (v := .tuple #[.agg #[iV 0,eS,iV 0,eS,iV 0],iV 9]) (by simp[results,Tryz.results178,go_sem,u0,u1,u2,u3,u4]) rfl ?_
         exact⟨by rw[HAN2.out];rfl,T2.out⟩
 ·obtain⟨i,hi,hfi,hfd⟩:= tK _ _ hf
  have HAN:Hid (ans = (x.VC[i],0)) := by unfold Hid;rw[HA.out];unfold gG;rw[hfd]
  rw[hfi]
  obtain⟨bb,ob,rfl,hbb,hatb⟩:= HR.out.bd.at hi
  have hA := (hatb.below hbb S1.out.b) i hi
  obtain⟨q,hq⟩: ∃q,q = x.VC[i] := ⟨_,rfl⟩
  rw[←hq]at hA HAN
  have c0:w1.cell? ⟨bb,ob + i * 5,none⟩ = some (iV q.UU) := hA 0 _ rfl
  have c1:w1.cell? ⟨bb,ob + i * 5 + 1,none⟩ = some (.string q.inn) := hA 1 _ rfl
  have c2:w1.cell? ⟨bb,ob + i * 5 + 2,none⟩ = some (iV q.UW) := hA 2 _ rfl
  have c3:w1.cell? ⟨bb,ob + i * 5 + 3,none⟩ = some (.string q.out) := hA 3 _ rfl
  have c4:w1.cell? ⟨bb,ob + i * 5 + 4,none⟩ = some (iV q.UX) := hA 4 _ rfl
  have k0 := S1.out.x.cell (j := 0) rfl
  have hiI:(i:Int) < (x.VC.length:Int) := by omega
  clear hatb hbb hq hA hf hfi hfd HA
  obtain⟨r0,r1,r2,r3,r4⟩:= S1.out.r.c5
  obtain⟨f0,f1,f2,f3,f4⟩:= S1.out.r.f5
  have T1:Hid _ := (((((S1.out.r.set 0 (iV q.UU)).set 1 (.string q.inn)).set 2 (iV q.UW)).set 3 (.string q.out)).set 4 (iV q.UX))
  have T2:Hid _ := (((((S1.out.b.setCell (p := ⟨w.heap.size + 1 + 1,0,none⟩) (by show w.heap.size ≤ w.heap.size + 1 + 1;omega) (iV q.UU)).setCell (p := ⟨w.heap.size + 1 + 1,1,none⟩) (by show w.heap.size ≤ w.heap.size + 1 + 1;omega) (.string q.inn)).setCell (p := ⟨w.heap.size + 1 + 1,2,none⟩) (by show w.heap.size ≤ w.heap.size + 1 + 1;omega) (iV q.UW)).setCell (p := ⟨w.heap.size + 1 + 1,3,none⟩) (by show w.heap.size ≤ w.heap.size + 1 + 1;omega) (.string q.out)).setCell (p := ⟨w.heap.size + 1 + 1,4,none⟩) (by show w.heap.size ≤ w.heap.size + 1 + 1;omega) (iV q.UX))
  go_wp2_with fail
  have u0 := T1.out.cell (j := 0) (v := iV q.UU) rfl
  have u1 := T1.out.cell (j := 1) (v := .string q.inn) rfl
  have u2 := T1.out.cell (j := 2) (v := iV q.UW) rfl
  have u3 := T1.out.cell (j := 3) (v := .string q.out) rfl
  have u4 := T1.out.cell (j := 4) (v := iV q.UX) rfl
  refine UQ (v := .tuple #[.agg #[iV q.UU,.string q.inn,iV q.UW,.string q.out,iV q.UX],iV 0]) (by simp[results,Tryz.results178,go_sem,u0,u1,u2,u3,u4]) rfl ?_
  exact⟨by rw[HAN.out];rfl,T2.out⟩

end Go.Proofs.YtdkepkaflielhaaGreatDoor
namespace Go.Proofs.YtdkepkaflielhaaGreatDoor
open Go.RowKit Go.PlainAid Go.ChangeShapes Go.WideShapes
section
variable {α:Type} {en:α→List Value} {n:Nat} {w W:World}
end
structure TG(base:Nat)(w:World)(a b:OA)(k nb ns:Nat):Prop where
 bd:PB 5 RI base w a k nb
 ss:PB 7 NC base w b (k+5*nb) ns
structure Bo where
 bib:Bb
 bind:Bd
 code:Int
def TB(a b:OA)(ca cb:Nat)(o:Bo):List Value:=[.slice a o.bib.VC.length ca,.slice b o.bib.UZ.length cb,iV o.bind.UU,.string o.bind.inn,iV o.bind.UW,.string o.bind.out,iV o.bind.UX,iV o.code]
def IP(a b:OA)(ca cb:Nat)(o:Bo):Value:=.agg #[.slice a o.bib.VC.length ca,.slice b o.bib.UZ.length cb,iV o.bind.UU,.string o.bind.inn,iV o.bind.UW,.string o.bind.out,iV o.bind.UX,iV o.code]
def mK(base:Nat)(o:Bo)(e:Ending)(w:World):Prop:=∃a b ca cb,e=.returned (IP a b ca cb o)∧dD base w a b o.bib
abbrev xA(a:OA)(b:Nat)(c:OA)(d:Nat)(o:Bo):List Value := [.slice a o.bib.VC.length b,.slice c o.bib.UZ.length d,iV o.bind.UU,.string o.bind.inn,iV o.bind.UW,.string o.bind.out,iV o.bind.UX,iV o.code]
def NR:Bb:=⟨[],[]⟩
structure Fl where
 UU:Int
 src:BA
 dst:BA
 sp:Int
 dp:Int
def gQ(f:Fl):Value:=.agg (dA f.UU f.src f.dst f.sp f.dp).toArray
def mX(f:Fl)(code:Int):Value:=.agg #[iV f.UU,.string f.src,.string f.dst,iV f.sp,iV f.dp,iV code]
def QJ:Fl:=⟨0,⟨#[]⟩,⟨#[]⟩,0,0⟩
def dV(s d:BA):Bool:=cI s&&decide (s.size=d.size)
def aJ(p:Int):Bool:=decide (p=1)||decide (p=58)
def cB(p:Int)(n:Nat):Bool:=decide (p=6)||decide (p=17)||(decide (p=1)&&decide (n=4))||(decide (p=58)&&decide (n=16))
def cF(f:Fl):Bool:=dV f.src f.dst&&cB f.UU f.src.size&&jS f.sp&&jS f.dp&&(!aJ f.UU||decide (f.sp=f.dp))
theorem jM{s d:BA}(h:dV s d=true):(s.size=4∨s.size=16)∧d.size=s.size:=by
 unfold dV at h;rw[TP,TU]at h;exact⟨pI h.1,h.2.symm⟩
def gA(p:Int)(t:BA):Bool:=(decide (p=6)&&(decide (t.size < 20)||decide (bt t 12 / 16 < 5)||decide ((t.size:Int) < 4*(bt t 12 / 16))))||decide (t.size < 8)
def iH(p:Int):Int:=if p=58 then 128 else 8
def jV(p:Int):Int:=if p=58 then 129 else 0
def aU(n:Nat)(p:Int)(t:BA):Int :=
 if cB p n=false then 11
 else if gA p t=true then 4
 else if aJ p=true then (if (bt t 0≠iH p∧bt t 0≠jV p)∨bt t 1≠0 then 11 else 0)
 else 0
def aR(s d:BA)(p:Int)(t:BA):Fl :=
 if aU s.size p t=0 then (if aJ p=true then ⟨p,s,d,aL (bt t) 4,aL (bt t) 4⟩ else ⟨p,s,d,aL (bt t) 0,aL (bt t) 2⟩)
 else ⟨p,s,d,0,0⟩
def aX(s d:BA)(p:Int)(t:BA):Int :=
 if 20000 < t.size∨20000 < s.size∨20000 < d.size then 2 else if dV s d=false then 1 else aU s.size p t
def bK(s d:BA)(p:Int)(t:BA):Fl:=if aX s d p t=0 then aR s d p t else QJ
def oW(x y:Int):BA:=⟨#[UInt8.ofNat x.toNat,0,0,UInt8.ofNat y.toNat]⟩
theorem wD(x y:Int):(oW x y).size=4:=rfl
def aO(s d:BA)(p:Int)(n:Nat):BA :=
 if p=1∧s.size=4 then ⟨#[]⟩
 else if s.size=4 then s++d++kE 0 p++aQ (n:Int)
 else s++d++aQ ((n:Int) / 65536)++aQ ((n:Int) % 65536)++oW 0 p
def xE(s d:BA)(p:Int)(t:BA):Int:=bI (aO s d p t.size++t)
def QH(s d:BA)(p:Int)(t:BA):Bool:=decide (t.size≤20000)&&decide (s.size≤20000)&&decide (d.size≤20000)&&dV s d&&aM p 0 255
def dJ(s d:BA)(p:Int)(t:BA):Bool:=QH s d p t&&(decide (xE s d p t=65535)||(decide (p=17)&&decide (s.size=4)&&decide (8≤t.size)&&decide (aL (bt t) 6=0)))
theorem kR(s d:BA)(p:Int)(n:Nat)(hs:s.size≤16)(hd:d.size≤16):(aO s d p n).size≤40:=by
 unfold aO;split
 ·exact UR _
 ·split
  ·simp only[UF,mT,aP];omega
  ·simp only[UF,aP,wD];omega
def dW(t:BA)(k:Nat)(u:BA):BA:=t.extract 0 k++u++t.extract (k+u.size) t.size
theorem eQ{t u:BA}{k:Nat}(h:k+u.size≤t.size):(dW t k u).size=t.size:=by
 unfold dW;simp only[UF,UG];omega
def aY(p:Int):Nat:=if p=6 then 16 else if p=17 then 6 else 2
def eL(f:Fl)(t:BA):BA:=(if aJ f.UU=true then t.extract 0 2++t.extract 4 6 else t.extract 0 4)++aO f.src f.dst f.UU t.size
def RP(b:Int):Int:=if b=8 then 128 else if b=0 then 129 else if b=128 then 8 else 0
def lI(f g:Fl)(t:BA):Int:=if f.UU≠g.UU then RP (bt t 0) else bt t 0
def lL(x:Int):BA:=⟨#[UInt8.ofNat x.toNat]⟩
def bJ(f g:Fl)(t:BA):BA :=
 if aJ f.UU=true then dW (dW t 0 (lL (lI f g t))) 4 (aQ g.sp) else dW t 0 (aQ g.sp++aQ g.dp)
def cL(f g:Fl)(t:BA):Int :=
 let n:=65535-gC (gC (65535-aL (bt t) (aY f.UU)) (65535-bI (eL f t))) (bI (eL g (bJ f g t)))
 if n=0 then 65535 else n
def eF(f:Fl)(t:BA):Bool:=decide (f.UU=17)&&decide (aL (bt t) (aY f.UU)=0)&&decide (f.src.size=4)
def iJ(f g:Fl)(t:BA):Bool:=cF f&&cF g&&(decide (f.UU=g.UU)||(aJ f.UU&&aJ g.UU))&&decide (aU f.src.size f.UU t=0)&&decide ((aR f.src f.dst f.UU t).sp=f.sp)&&decide ((aR f.src f.dst f.UU t).dp=f.dp)
def dL(f g:Fl)(t:BA):Int :=
 if 20000 < t.size then 2 else if iJ f g t=false then 1 else if eF f t=true∧g.src.size=16 then 5 else 0
def cR(f g:Fl)(t:BA):BA :=
 if dL f g t=0 then (if eF f t=true then bJ f g t else dW (bJ f g t) (aY f.UU) (aQ (cL f g t))) else ⟨#[]⟩
def eJ(t:BA)(code:Int):Value:=.agg #[.string t,iV code]
def kH(t:BA):Int:=if 20000 < t.size∨t.size < 20 then 0 else bt t 13
abbrev gE(p:Fl):List Value := [iV p.UU,.string p.src,.string p.dst,iV p.sp,iV p.dp]
structure Pc where
 src:BA
 dst:BA
 UU:Int
 id:Int
 off:Int
 more:Bool
 data:BA
 since:Int
instance:Inhabited Pc:=⟨⟨⟨#[]⟩,⟨#[]⟩,0,0,0,false,⟨#[]⟩,0⟩⟩
def bS(n:Int):Bool:=aM n 0 1000000000
theorem OH{α:Type}{p:α→Bool}{xs:List α}{i:Nat}(h:i < xs.length)(hn:(xs.take i).find? p=none)(hp:p xs[i]=true):xs.find? p=some xs[i]:=by
 conv=>lhs;rw[←List.take_append_drop i xs]
 rw[List.find?_append,hn,List.drop_eq_getElem_cons h,List.find?_cons_of_pos hp];rfl
structure SY where
 pieces:List Pc
 data:BA
 done:Bool
 code:Int
def bY(t:Tc):Bool:=eP t.UU&&cI t.addr&&(t.UY||decide (t.addr.size=4))&&jS t.port&&decide (t.peer.size=4)&&jS t.UV&&aM t.VB 0 255
def eR(c:Bd)(peer:BA)(port:Int)(s:Ss):Bool:=gY c s&&decide (s.peer.toList=peer.toList)&&decide (s.UV=port)
def kY(c:Bd)(peer:BA)(s:Ss):Bool:=gY c s&&decide (s.peer.toList=peer.toList)
def uJ(p:Pl)(t:Tc)(c:Bd)(st now:Int):Ss:=⟨t.UU,c.inn,c.UW,t.peer,t.UV,st,now+bT p.lv t.UU st⟩
def nU(xs:List Bd)(c:Bd):List Bd:=if bG (cD c.UU c.inn c.UW) xs < 0 then xs++[c] else xs
def lB(n:Int):Bo:=⟨NR,lT,n⟩
def jX(p:Pl)(x:Bb)(t:Tc)(c:Bd)(now:Int):Bo :=
 if bB t.UU t.UY t.VB=0 then lB 6
 else if p.most≤(x.UZ.length:Int) then lB 9
 else if (if t.UY=true then (gG p x.VC t.UU t.addr t.port).2 else 0)≠0 then lB (if t.UY=true then (gG p x.VC t.UU t.addr t.port).2 else 0)
 else ⟨⟨nU x.VC (if t.UY=true then (gG p x.VC t.UU t.addr t.port).1 else c),x.UZ++[uJ p t (if t.UY=true then (gG p x.VC t.UU t.addr t.port).1 else c) (bB t.UU t.UY t.VB) now]⟩,(if t.UY=true then (gG p x.VC t.UU t.addr t.port).1 else c),0⟩
def lY(p:Pl)(t:Tc)(now:Int)(s:Ss):Ss:={ s with state:=aV t.UU s.state t.UY t.VB,untl:=now+bT p.lv t.UU (aV t.UU s.state t.UY t.VB) }
def rP(xs:List Ss)(i:Nat)(f:Ss→Ss):List Ss:=match xs[i]? with | some s=>xs.set i (f s) | none=>xs
def nB(p:Pl)(x:Bb)(t:Tc)(c:Bd):Bool:=!t.UY&&(decide (p.filter=2)||(decide (p.filter=1)&&!x.UZ.any (kY c t.peer)))
def gF(p:Pl)(x:Bb)(t:Tc)(now:Int):Bo :=
 match x.VC.find? (if t.UY=true then cD t.UU t.addr t.port else dE t.UU t.addr t.port) with
 | none=>if t.UY=true then jX p x t lT now else lB 6
 | some c=>match x.UZ.findIdx? (eR c t.peer t.UV) with
  | none=>if nB p x t c=true then lB 6 else jX p x t c now
  | some i=>⟨⟨x.VC,rP x.UZ i (lY p t now)⟩,c,0⟩
def dB(p:Pl)(x:Bb)(t:Tc)(now:Int):Bo:=if (fS p x&&bS now&&bY t)=true then gF p x t now else lB 1
structure SR(w:World)(B:Nat)(p:P4):Prop where
 c0:w.cell? ⟨B,0,none⟩=some (iV p.tos)
 c1:w.cell? ⟨B,1,none⟩=some (iV p.id)
 c2:w.cell? ⟨B,2,none⟩=some (.bool p.whole)
 c3:w.cell? ⟨B,3,none⟩=some (.bool p.more)
 c4:w.cell? ⟨B,4,none⟩=some (iV p.off)
 c5:w.cell? ⟨B,5,none⟩=some (iV p.ttl)
 c6:w.cell? ⟨B,6,none⟩=some (iV p.UU)
 c7:w.cell? ⟨B,7,none⟩=some (.string p.src)
 c8:w.cell? ⟨B,8,none⟩=some (.string p.dst)
 c9:w.cell? ⟨B,9,none⟩=some (.string p.opts)
 c10:w.cell? ⟨B,10,none⟩=some (.string p.data)
theorem jK(n:Int)(w:World) :
  Cw 121 #[iV n] w (.bool (aM n 0 255)):=by
 by_cases h1:0≤n
 ·by_cases h2:n≤255
  ·have HV:Hid (aM n 0 255=true):=by unfold Hid aM;simp[h1,h2]
   go_enter Tryz.func121,Tryz.ntmps121
   go_wp2_with fail
   go_ret;exact⟨aB (by rw[HV.out]),rfl⟩
  ·have HV:Hid (aM n 0 255=false):=by unfold Hid aM;simp[h2]
   go_enter Tryz.func121,Tryz.ntmps121
   go_wp2_with fail
   go_ret;exact⟨aB (by rw[HV.out]),rfl⟩
 ·have HV:Hid (aM n 0 255=false):=by unfold Hid aM;simp[h1]
  have h1':n < 0:=by omega
  go_enter Tryz.func121,Tryz.ntmps121
  go_wp2_with fail
  go_ret;exact⟨aB (by rw[HV.out]),rfl⟩
def PI(off:Int)(more:Bool)(data:BA)(top:Int):Bool:=aM off 0 8191&&decide (data.size≤1400)&&(!more||decide (data.size % 8=0))&&decide (8*off+data.size≤top)
theorem KU(p:P4):iX p=(aM p.tos 0 255&&(aM p.ttl 0 255&&(aM p.UU 0 255&&(aM p.id 0 65535&&(decide (p.src.size=4)&&(decide (p.dst.size=4)&&(decide (p.opts.size≤40)&&(decide (p.opts.size % 4=0)&&(PI p.off p.more p.data 65515&&!(p.whole&&(p.more||!decide (p.off=0))))))))))) ):=by
 unfold iX KT LD QZ PI;simp only[Bool.not_and,Bool.not_not,Bool.not_or];ac_rfl
theorem xP(off:Int)(more:Bool)(data:BA)(top:Int)(w:World)(h4:data.size≤1048576) :
  Cw 123 #[iV off,.bool more,.string data,iV top] w (.bool (PI off more data top)):=by
 have HV:Hid (PI off more data top=(decide (0≤off)&&decide (off≤8191)&&decide (data.size≤1400)&&(!more||decide (data.size % 8=0))&&decide (8*off+data.size≤top))):=by unfold Hid PI aM;rfl
 generalize PI off more data top=ok at *;by_cases e0:0≤off
 ·by_cases e1:off≤8191
  ·by_cases e2:data.size≤1400
   ·have d2:decide ((data.size:Int)≤1400)=true:=by simp;omega
    have em:(!more||decide (data.size % 8=0))=true∨(more=true∧¬data.size % 8=0):=by cases more<;>simp<;>omega
    rcases em with em|⟨rfl,em⟩
    ·by_cases e9:8*off+data.size≤top
     ·replace HV:Hid (ok=true):=by unfold Hid;rw[HV.out,em];simp[e0,e1,e2,e9]
      cases more with
      | false=>
       clear em;go_enter Tryz.func123,Tryz.ntmps123
       go_wp2_with fail
       go_ret;exact⟨aB HV.out.symm,rfl⟩
      | true=>
       have dm:(((data.size:Int) % 8)==0)=true:=by simp at em;simp;omega
       clear em;go_enter Tryz.func123,Tryz.ntmps123
       go_wp2_with fail
       go_ret;exact⟨aB HV.out.symm,rfl⟩
     ·replace HV:Hid (ok=false):=by unfold Hid;rw[HV.out];simp[e9]
      cases more with
      | false=>
       clear em;go_enter Tryz.func123,Tryz.ntmps123
       go_wp2_with fail
       go_ret;exact⟨aB HV.out.symm,rfl⟩
      | true=>
       have dm:(((data.size:Int) % 8)==0)=true:=by simp at em;simp;omega
       clear em;go_enter Tryz.func123,Tryz.ntmps123
       go_wp2_with fail
       go_ret;exact⟨aB HV.out.symm,rfl⟩
    ·replace HV:Hid (ok=false):=by unfold Hid;rw[HV.out];simp[em]
     have dm:(((data.size:Int) % 8)==0)=false:=by simp;omega
     go_enter Tryz.func123,Tryz.ntmps123
     go_wp2_with fail
     go_ret;exact⟨aB HV.out.symm,rfl⟩
   ·replace HV:Hid (ok=false):=by unfold Hid;rw[HV.out];simp[e2]
    have d2:decide ((data.size:Int)≤1400)=false:=by simp;omega
    go_enter Tryz.func123,Tryz.ntmps123
    go_wp2_with fail
    go_ret;exact⟨aB HV.out.symm,rfl⟩
  ·replace HV:Hid (ok=false):=by unfold Hid;rw[HV.out];simp[e1]
   go_enter Tryz.func123,Tryz.ntmps123
   go_wp2_with fail
   go_ret;exact⟨aB HV.out.symm,rfl⟩
 ·replace HV:Hid (ok=false):=by unfold Hid;rw[HV.out];simp[e0]
  go_enter Tryz.func123,Tryz.ntmps123
  go_wp2_with fail
  go_ret;exact⟨aB HV.out.symm,rfl⟩
end Go.Proofs.YtdkepkaflielhaaGreatDoor
