import Derived.Test.YtdkepkaflielhaaGreatDoorMerged11
set_option linter.unusedVariables false
set_option linter.unusedSimpArgs false
set_option maxRecDepth 100000
set_option maxHeartbeats 8000000
namespace Go.Proofs.YtdkepkaflielhaaGreatDoor
open Go.RowKit Go.PlainAid
theorem free_any (xs:List Bd) (proto:Int) (s:ByteArray) (n:Int):freeP xs proto s n=!xs.any (ofOut proto s n):=by
 unfold freeP;rw [← findI_any];by_cases h:findI (ofOut proto s n) xs < 0
 ·rw [decide_eq_true h,decide_eq_false (by omega)]; rfl
 ·rw [decide_eq_false h,decide_eq_true (by omega)]; rfl
theorem lendN_or (p:Pl) (xs:List Bd) (proto:Int) (s:ByteArray) (wish:Int):lendN p xs proto s wish=if (isIn wish p.low p.high&&freeP xs proto s wish)=true then some wish else (leastN (fun n=>decide (n % 2=wish % 2)&&freeP xs proto s n) p.low (p.high-p.low+1).toNat).or (leastN (freeP xs proto s) p.low (p.high-p.low+1).toNat):=by
 unfold lendN;split
 ·rfl
 ·cases leastN (fun n=>decide (n % 2=wish % 2)&&freeP xs proto s n) p.low (p.high-p.low+1).toNat<;>rfl
theorem least_any (f:Int→Bool) (L:Int→Option Int) (I:Int→Prop) (st lo hi:Int) (F:Nat) (hG:Enters F) (caps:Array Value) (w:World) (h0:0≤lo) (hlo:lo≤65540) (hhi:hi≤65535) (hst1:1≤st) (hst2:st≤2) (hIs:I lo) (hIn:∀ n,I n→I (n+st)) (hL:∀ n,I n→n≤hi→L n=if f n=true then some n else L (n+st)) (hE:∀ n,I n→hi < n→L n=none)
  (hC:∀ W,Below w.heap.size w W→∀ n,0≤n→n≤65535→Calls Tryz.prog F (#[iV n]++caps) W fun e w'=>e=.returned (.bool (f n))∧Below W.heap.size W w') :
  Cb 183 #[iV lo,iV hi,iV st,.func (.func F) #[] caps] w (.tuple #[iV ((L lo).getD 0),.bool (L lo).isSome]):=by
 have HC:Hid _:=hC;have HL:Hid _:=hL;have HE:Hid _:=hE;have HIN:Hid (∀ n,I n→I (n+st)):=hIn;obtain ⟨lv,hlv⟩ : ∃ y,y=L lo:=⟨_,rfl⟩;have HLV:Hid (lv=L lo):=hlv;rw [← hlv];clear hC hL hE hIn hlv;unfold Enters at hG;go_enter Tryz.func183,Tryz.ntmps183
 go_wp2_with fail
 go_loopw [10] (fun pv wr=>∃ n:Int,0≤n∧n≤65540∧pv=iV n∧Hid (I n)∧Hid (lv=L n)∧Below w.heap.size w wr) (fun pv _=>(65541-intOf pv).toNat)
 case atStart=>exact ⟨lo,by omega,by omega,rfl,hIs,HLV.out,Below.refl _ _⟩
 case round =>
  obtain ⟨n,hn0,hn1,rfl,hin,hln,hb⟩:=hrel;have HB:Hid (Below w.heap.size w wr):=hb;clear hb;by_cases hle:n≤hi
  ·have HC2:Hid _:=HC.out wr HB.out n hn0 (by omega);have HL2:Hid _:=HL.out n hin.out hle;obtain ⟨fb,hfb⟩ : ∃ y,y=f n:=⟨_,rfl⟩;rw [← hfb] at HC2 HL2;clear hfb;go_wp2_with fail
   refine Calls.mono HC2.out ?_;rintro e w1 ⟨rfl,q1⟩;have HB1:Hid _:=HB.out.trans (q1.mono HB.out.size);clear q1
   cases fb with
   | true =>
    have HX:Hid (lv=some n):=by unfold Hid; rw [hln.out,HL2.out,if_pos rfl]
    go_wp2_with fail
    go_ret2
    exact ⟨by rw [HX.out]; rfl,HB1.out⟩
   | false =>
    have HX:Hid (lv=L (n+st)):=by unfold Hid; rw [hln.out,HL2.out,if_neg (by simp)]
    have HI2:Hid (I (n+st)):=HIN.out n hin.out;go_wp2_with fail
    go_roundw
    case rel=>exact ⟨n+st,by omega,by omega,rfl,HI2,HX,HB1.out⟩
    case measure=>simp [intOf]; omega
  ·have HX:Hid (lv=none):=by unfold Hid; rw [hln.out]; exact HE.out n hin.out (by omega)
   have hgt:hi < n:=by omega
   go_wp2_with fail
   go_ret2
   exact ⟨by rw [HX.out]; rfl,HB.out⟩
theorem free1_any (pa:Option Addr) (pc:Nat) (p:Pl) (ba bo:Option Addr) (ca cb:Nat) (x:Bb) (m1 m2:Nat) (xs:List Bd) (proto:Int) (s:ByteArray) (port:Int) (B4 B5 B6:Nat) (w:World) (he:EnIn ⟨proto,s,port⟩) (hk:HoldsL w B4 (KkV pa pc p ba ca bo cb x m1 m2)) (h5:HoldsL w B5 [iV proto]) (h6:HoldsL w B6 [.string s]) (hbk:BookAt w m1 m2 xs xs) :
  Cb 182 #[iV port,.pointer (some ⟨B4,0,none⟩),.pointer (some ⟨B5,0,none⟩),.pointer (some ⟨B6,0,none⟩)] w (.bool (freeP xs proto s port)):=by
 obtain ⟨c,hc⟩ : ∃ c,c=(xs.find? fun q=>sameEn (lentE q) ⟨proto,s,port⟩).getD bdZ:=⟨_,rfl⟩;have LK:(Instr.lookup 137 (.map (some m2)) (.agg (EnV proto s port).toArray) true).run Tryz.prog w=.ok (.tuple #[.agg (BdV c).toArray,.bool (xs.any (ofOut proto s port))]) w:=by
  have h:=hbk.look2 (e:=⟨proto,s,port⟩) he;rw [find_some_any,← hc,show (fun q=>sameEn (lentE q) ⟨proto,s,port⟩)=ofOut proto s port from funext fun c=>lent_out _ _ _ c] at h;exact h
 have HV:Hid (freeP xs proto s port=!xs.any (ofOut proto s port)):=free_any xs proto s port;have k13:=hk.cell (j:=13) rfl;have k5:=h5.cell (j:=0) rfl;have k6:=h6.cell (j:=0) rfl;generalize freeP xs proto s port=ans at *;generalize xs.any (ofOut proto s port)=an at *;clear hc hk h5 h6 hbk he;have HZ:Hid (Below w.heap.size w (w.alloc (.cells (BdV c).toArray 48))):=bR.alloc lR _;go_enter Tryz.func182,Tryz.ntmps182
 go_wp2_with (at_lookup; refine wpList_look_val rfl _ _ _ _ rfl rfl rfl LK ?_)
 go_ret;exact ⟨ret_bool HV.out.symm,HZ.out⟩
theorem freePort_any (pa:Option Addr) (pc:Nat) (p:Pl) (ba bo:Option Addr) (ca cb:Nat) (x:Bb) (m1 m2:Nat) (xs:List Bd) (proto:Int) (s:ByteArray) (wish:Int) (w:World) (hpo:poolOk p=true) (hs:s.size≤1048576) (hpr:In64t proto) (hw0:0≤wish) (hw1:wish≤65535) (hbk:BookAt w m1 m2 xs xs) :
  Cb 171 #[bkC pa pc p ba bo ca cb x m1 m2,iV proto,.string s,iV wish] w (.tuple #[iV ((lendN p xs proto s wish).getD 0),.bool (lendN p xs proto s wish).isSome]):=by
 have hpb:1≤p.low∧p.low≤p.high∧p.high≤65535:=by
  unfold poolOk at hpo; simp only [Bool.and_eq_true,decide_eq_true_iff] at hpo; omega
 obtain ⟨hlo,hlh,hhi⟩:=hpb;clear hpo;have HZ:Hid (Below w.heap.size w ((aW (aW w (KkV pa pc p ba ca bo cb x m1 m2) 139) [iV proto] 2).alloc (.cells #[.string s] 9))):=((bR.alloc lR _).alloc (by simp) _).alloc (by simp; omega) _;have HK:Hid (HoldsL ((aW (aW w (KkV pa pc p ba ca bo cb x m1 m2) 139) [iV proto] 2).alloc (.cells #[.string s] 9)) w.heap.size (KkV pa pc p ba ca bo cb x m1 m2)):=((HoldsL.new w (KkV pa pc p ba ca bo cb x m1 m2) 139).alloc _).alloc _;have H5:Hid (HoldsL ((aW (aW w (KkV pa pc p ba ca bo cb x m1 m2) 139) [iV proto] 2).alloc (.cells #[.string s] 9)) (w.heap.size+1) [iV proto]):=by
  have h:=(HoldsL.new (w.alloc (.cells (KkV pa pc p ba ca bo cb x m1 m2).toArray 139)) [iV proto] 2).alloc (.cells #[.string s] 9);rw [World.size_alloc] at h; exact h
 have H6:Hid (HoldsL ((aW (aW w (KkV pa pc p ba ca bo cb x m1 m2) 139) [iV proto] 2).alloc (.cells #[.string s] 9)) (w.heap.size+1+1) [.string s]):=by
  have h:=HoldsL.new ((aW w (KkV pa pc p ba ca bo cb x m1 m2) 139).alloc (.cells #[iV proto] 2)) [.string s] 9;rw [World.size_alloc,World.size_alloc] at h; exact h
 have HBK:Hid (BookAt w m1 m2 xs xs):=hbk;have HFR:Hid (∀ W,Below w.heap.size w W→HoldsL W w.heap.size (KkV pa pc p ba ca bo cb x m1 m2)→HoldsL W (w.heap.size+1) [iV proto]→HoldsL W (w.heap.size+1+1) [.string s]→∀ n,0≤n→n≤65535→Cb 182 #[iV n,.pointer (some ⟨w.heap.size,0,none⟩),.pointer (some ⟨w.heap.size+1,0,none⟩),.pointer (some ⟨w.heap.size+1+1,0,none⟩)] W (.bool (freeP xs proto s n))):=fun W hW h1 h2 h3 n hn0 hn1=>free1_any pa pc p ba bo ca cb x m1 m2 xs proto s n _ _ _ W ⟨hs,hpr,⟨by show _≤n; omega,by show n≤_; omega⟩⟩ h1 h2 h3 (hbk.kept hW)
 have HLD:Hid (∀ W,Cb 165 #[.agg (KkV pa pc p ba ca bo cb x m1 m2).toArray,iV wish] W (.bool (isIn wish p.low p.high))):=fun W=>lends_any pa pc p ba bo ca cb x m1 m2 wish W
 have HL2:Hid (∀ W,Below w.heap.size w W→HoldsL W w.heap.size (KkV pa pc p ba ca bo cb x m1 m2)→HoldsL W (w.heap.size+1) [iV proto]→HoldsL W (w.heap.size+1+1) [.string s]→Cb 183 #[iV (p.low+(p.low+wish) % 2),iV p.high,iV 2,.func (.func 182) #[] #[.pointer (some ⟨w.heap.size,0,none⟩),.pointer (some ⟨w.heap.size+1,0,none⟩),.pointer (some ⟨w.heap.size+1+1,0,none⟩)]] W (.tuple #[iV ((leastN (fun m=>decide (m % 2=wish % 2)&&freeP xs proto s m) p.low (p.high-p.low+1).toNat).getD 0),.bool (leastN (fun m=>decide (m % 2=wish % 2)&&freeP xs proto s m) p.low (p.high-p.low+1).toNat).isSome])):=fun W hW h1 h2 h3=>by
  rw [leastN_first (by omega) hw0 hlh];exact least_any (freeP xs proto s) (fun n=>leastN (fun m=>decide (m % 2=wish % 2)&&freeP xs proto s m) n (p.high-n+1).toNat) (fun n=>n % 2=wish % 2) 2 (p.low+(p.low+wish) % 2) p.high _ (fun args W=>by kernel_rfl) _ W (by omega) (by omega) hhi (by omega) (by omega) (by show _ % 2=_; omega) (fun n hn=>by show _ % 2=_; have:n % 2=wish % 2:=hn; omega) (fun n hn hle=>leastN_par hle hn) (fun n hn hgt=>leastN_end hgt) (fun W' hW' n hn0 hn1=>HFR.out W' (hW.trans (hW'.mono hW.size)) (h1.kept (by simp) hW') (h2.kept (by simp) hW') (h3.kept (by simp) hW') n hn0 hn1)
 have HL1:Hid (∀ W,Below w.heap.size w W→HoldsL W w.heap.size (KkV pa pc p ba ca bo cb x m1 m2)→HoldsL W (w.heap.size+1) [iV proto]→HoldsL W (w.heap.size+1+1) [.string s]→Cb 183 #[iV p.low,iV p.high,iV 1,.func (.func 182) #[] #[.pointer (some ⟨w.heap.size,0,none⟩),.pointer (some ⟨w.heap.size+1,0,none⟩),.pointer (some ⟨w.heap.size+1+1,0,none⟩)]] W (.tuple #[iV ((leastN (freeP xs proto s) p.low (p.high-p.low+1).toNat).getD 0),.bool (leastN (freeP xs proto s) p.low (p.high-p.low+1).toNat).isSome])):=fun W hW h1 h2 h3 =>
  least_any (freeP xs proto s) (fun n=>leastN (freeP xs proto s) n (p.high-n+1).toNat) (fun n=>True) 1 p.low p.high _ (fun args W=>by kernel_rfl) _ W (by omega) (by omega) hhi (by omega) (by omega) trivial (fun n hn=>trivial) (fun n hn hle=>leastN_step hle) (fun n hn hgt=>leastN_end hgt) (fun W' hW' n hn0 hn1=>HFR.out W' (hW.trans (hW'.mono hW.size)) (h1.kept (by simp) hW') (h2.kept (by simp) hW') (h3.kept (by simp) hW') n hn0 hn1)
 have HV:Hid _:=lendN_or p xs proto s wish;generalize lendN p xs proto s wish=ans at *;generalize leastN (fun m=>decide (m % 2=wish % 2)&&freeP xs proto s m) p.low (p.high-p.low+1).toNat=o2 at *;generalize leastN (freeP xs proto s) p.low (p.high-p.low+1).toNat=o1 at *;generalize isIn wish p.low p.high=il at *;have HFW:Hid _:=fun W a1 a2 a3 a4=>HFR.out W a1 a2 a3 a4 wish hw0 hw1
 generalize freeP xs proto s wish=fw at *;clear hbk HFR;have hun:undef=Value.tuple #[]:=rfl;unfold bkC;go_enter Tryz.func171,Tryz.ntmps171
 go_upto_region 1 with fail
 generalize World.alloc _ _=W at *;obtain ⟨k0,k1,k2,k3,k4,k5,k6,k7,k8,k9,k10,k11,k12,k13⟩:=HK.out.c14;go_wp2_with fail
 refine (HLD.out _).mono ?_;rintro e w1 ⟨rfl,q1⟩;have HZ1:Hid _:=HZ.out.trans (q1.mono HZ.out.size);have HK1:Hid _:=HK.out.kept (by simp) q1;have H51:Hid _:=H5.out.kept (by simp) q1;have H61:Hid _:=H6.out.kept (by simp) q1;clear q1 HZ HK H5 H6 HLD k0 k1 k2 k3 k4 k5 k6 k7 k8 k9 k10 k11 k12 k13
 cases il with
 | false =>
  obtain ⟨-,k1,k2⟩:=HK1.out.c3;have HV2:Hid (ans=o2.or o1):=by unfold Hid; rw [HV.out]; simp
  clear HV;go_wp2_with fail
  refine (HL2.out _ HZ1.out HK1.out H51.out H61.out).mono ?_;rintro e w3 ⟨rfl,q3⟩;have HZ3:Hid _:=HZ1.out.trans (q3.mono HZ1.out.size);have HK3:Hid _:=HK1.out.kept (by simp) q3;have H53:Hid _:=H51.out.kept (by simp) q3;have H63:Hid _:=H61.out.kept (by simp) q3;clear q3 k1 k2 HZ1 HK1 H51 H61 HL2
  cases o2 with
  | some n =>
   have HX:Hid (ans=some n):=HV2.out;go_wp2_with fail
   go_ret2
   exact ⟨by rw [HX.out]; rfl,HZ3.out⟩
  | none =>
   have HX:Hid (ans=o1):=HV2.out;obtain ⟨-,k1,k2⟩:=HK3.out.c3;go_wp2_with fail
   refine (HL1.out _ HZ3.out HK3.out H53.out H63.out).mono ?_;rintro e w4 ⟨rfl,q4⟩;have HZ4:Hid _:=HZ3.out.trans (q4.mono HZ3.out.size);clear q4 k1 k2;go_wp2_with fail
   go_ret2
   exact ⟨by rw [HX.out]; rfl,HZ4.out⟩
 | true =>
  go_wp2_with fail
  refine (HFW.out _ HZ1.out HK1.out H51.out H61.out).mono ?_;rintro e w2 ⟨rfl,q2⟩;have HZ2:Hid _:=HZ1.out.trans (q2.mono HZ1.out.size);have HK2:Hid _:=HK1.out.kept (by simp) q2;have H52:Hid _:=H51.out.kept (by simp) q2;have H62:Hid _:=H61.out.kept (by simp) q2;clear q2 HZ1 HK1 H51 H61 HFW
  cases fw with
  | true =>
   have HX:Hid (ans=some wish):=by unfold Hid; rw [HV.out]; rfl
   go_wp2_with fail
   go_ret2
   exact ⟨by rw [HX.out]; rfl,HZ2.out⟩
  | false =>
   obtain ⟨-,k1,k2⟩:=HK2.out.c3;have HV2:Hid (ans=o2.or o1):=by unfold Hid; rw [HV.out]; simp
   clear HV;go_wp2_with fail
   refine (HL2.out _ HZ2.out HK2.out H52.out H62.out).mono ?_;rintro e w3 ⟨rfl,q3⟩;have HZ3:Hid _:=HZ2.out.trans (q3.mono HZ2.out.size);have HK3:Hid _:=HK2.out.kept (by simp) q3;have H53:Hid _:=H52.out.kept (by simp) q3;have H63:Hid _:=H62.out.kept (by simp) q3;clear q3 k1 k2 HZ2 HK2 H52 H62 HL2
   cases o2 with
   | some n =>
    have HX:Hid (ans=some n):=HV2.out;go_wp2_with fail
    go_ret2
    exact ⟨by rw [HX.out]; rfl,HZ3.out⟩
   | none =>
    have HX:Hid (ans=o1):=HV2.out;obtain ⟨-,k1,k2⟩:=HK3.out.c3;go_wp2_with fail
    refine (HL1.out _ HZ3.out HK3.out H53.out H63.out).mono ?_;rintro e w4 ⟨rfl,q4⟩;have HZ4:Hid _:=HZ3.out.trans (q4.mono HZ3.out.size);clear q4 k1 k2;go_wp2_with fail
    go_ret2
    exact ⟨by rw [HX.out]; rfl,HZ4.out⟩
def bindForV (p:Pl) (xs:List Bd) (h:En):Bd × Bool :=
 if (xs.find? (ofIn h.proto h.addr h.port)).isSome=true then ((xs.find? (ofIn h.proto h.addr h.port)).getD bdZ,true)
 else (⟨h.proto,h.addr,h.port,outIn xs (outD p h.addr) h.addr,(lendN p xs h.proto (outIn xs (outD p h.addr) h.addr) h.port).getD 0⟩,(lendN p xs h.proto (outIn xs (outD p h.addr) h.addr) h.port).isSome)
theorem bindFor_lend (p:Pl) (xs:List Bd) (h:En):lendV p xs h.proto h.addr h.port=if (bindForV p xs h).2=true then ((bindForV p xs h).1,0) else (bdZ,9):=by
 unfold lendV bindForV
 cases xs.find? (ofIn h.proto h.addr h.port) with
 | some c=>rfl
 | none =>
  cases lendN p xs h.proto (outIn xs (outD p h.addr) h.addr) h.port<;>rfl
theorem outIn_some {xs:List Bd} {s d:ByteArray} (h:(xs.find? (ofHost s)).isSome=true):outIn xs d s=outIn xs ⟨#[]⟩ s:=by
 unfold outIn; cases hf:xs.find? (ofHost s) with
 | some c=>rfl
 | none=>rw [hf] at h; simp at h
theorem outIn_none {xs:List Bd} {s d:ByteArray} (h:(xs.find? (ofHost s)).isSome=false):outIn xs d s=d:=by
 unfold outIn; cases hf:xs.find? (ofHost s) with
 | some c=>rw [hf] at h; simp at h
 | none=>rfl
theorem outIn_sz {p:Pl} {xs:List Bd} {s:ByteArray} (hps:∀ s∈p.addrs,s.size≤1048576) (hgb:∀ q∈xs,BdGood q):(outIn xs (outD p s) s).size≤1048576:=by
 unfold outIn
 cases hf:xs.find? (ofHost s) with
 | some c=>exact (hgb c (List.mem_of_find?_eq_some hf)).2.1
 | none =>
  show (outD p s).size≤_;unfold outD
  cases ha:p.addrs[(sumV s).toNat % p.addrs.length]? with
  | none=>exact Nat.zero_le _
  | some a=>exact hps a (List.mem_of_getElem? ha)
theorem bindFor_any (pa:Option Addr) (pc:Nat) (p:Pl) (ba bo:Option Addr) (ca cb:Nat) (x:Bb) (m1 m2:Nat) (h:En) (w:World) (hpo:poolOk p=true) (he:EnIn h) (hw0:0≤h.port) (hw1:h.port≤65535) (hps:∀ s∈p.addrs,s.size≤1048576) (hbl1:x.binds.length≤1048576) (hgb:∀ q∈x.binds,BdGood q) (hbk:BookAt w m1 m2 x.binds x.binds) (hp:SlIs strL1 1 w pa p.addrs) (hx:BbIs w ba bo x) :
  Cb 141 #[bkC pa pc p ba bo ca cb x m1 m2,enC h] w (.tuple #[bdC (bindForV p x.binds h).1,.bool (bindForV p x.binds h).2]):=by
 have hpb:1≤p.addrs.length∧p.addrs.length≤8:=by
  unfold poolOk at hpo; simp only [Bool.and_eq_true,decide_eq_true_iff] at hpo; omega
 obtain ⟨hp1,hp8⟩:=hpb;have HPO:Hid (poolOk p=true):=hpo;have HZ:Hid (Below w.heap.size w ((aW (aW w (KkV pa pc p ba ca bo cb x m1 m2) 139) (EnV h.proto h.addr h.port) 86).alloc (.cells (BdR 0 ⟨#[]⟩ 0 ⟨#[]⟩ 0).toArray 48))):=((bR.alloc lR _).alloc (by simp) _).alloc (by simp; omega) _;have HK:Hid (HoldsL ((aW (aW w (KkV pa pc p ba ca bo cb x m1 m2) 139) (EnV h.proto h.addr h.port) 86).alloc (.cells (BdR 0 ⟨#[]⟩ 0 ⟨#[]⟩ 0).toArray 48)) w.heap.size (KkV pa pc p ba ca bo cb x m1 m2)):=((HoldsL.new w (KkV pa pc p ba ca bo cb x m1 m2) 139).alloc _).alloc _;have HH:Hid (HoldsL ((aW (aW w (KkV pa pc p ba ca bo cb x m1 m2) 139) (EnV h.proto h.addr h.port) 86).alloc (.cells (BdR 0 ⟨#[]⟩ 0 ⟨#[]⟩ 0).toArray 48)) (w.heap.size+1) (EnV h.proto h.addr h.port)):=by
  have h:=(HoldsL.new (w.alloc (.cells (KkV pa pc p ba ca bo cb x m1 m2).toArray 139)) (EnV h.proto h.addr h.port) 86).alloc (.cells (BdR 0 ⟨#[]⟩ 0 ⟨#[]⟩ 0).toArray 48);rw [World.size_alloc] at h; exact h
 have HR:Hid (HoldsL ((aW (aW w (KkV pa pc p ba ca bo cb x m1 m2) 139) (EnV h.proto h.addr h.port) 86).alloc (.cells (BdR 0 ⟨#[]⟩ 0 ⟨#[]⟩ 0).toArray 48)) (w.heap.size+1+1) (BdR 0 ⟨#[]⟩ 0 ⟨#[]⟩ 0)):=by
  have h:=HoldsL.new ((aW w (KkV pa pc p ba ca bo cb x m1 m2) 139).alloc (.cells (EnV h.proto h.addr h.port).toArray 86)) (BdR 0 ⟨#[]⟩ 0 ⟨#[]⟩ 0) 48;rw [World.size_alloc,World.size_alloc] at h; exact h
 have hRw:w.heap.size≤w.heap.size+1+1:=by omega
 obtain ⟨c,hc⟩ : ∃ c,c=(x.binds.find? (ofIn h.proto h.addr h.port)).getD bdZ:=⟨_,rfl⟩;have HLK:Hid (∀ W,Below w.heap.size w W→(Instr.lookup 137 (.map (some m1)) (.agg (EnV h.proto h.addr h.port).toArray) true).run Tryz.prog W=.ok (.tuple #[.agg (BdV c).toArray,.bool (x.binds.find? (ofIn h.proto h.addr h.port)).isSome]) W):=fun W hW=>by
  have hl:=(hbk.kept hW).look1 (e:=h) he;rw [show (fun q=>sameEn (hostE q) h)=ofIn h.proto h.addr h.port from funext fun c=>host_in _ _ _ c,← hc] at hl;exact hl
 have HO:Hid (∀ W,Below w.heap.size w W→Cb 164 #[.slice ba x.binds.length ca,.string h.addr] W (.tuple #[.string (outIn x.binds ⟨#[]⟩ h.addr),.bool (x.binds.find? (ofHost h.addr)).isSome])):=fun W hW=>outOf_any h.addr x.binds ba ca W hbl1 (hx.bd.below hW)
 have HF:Hid (∀ W s,Below w.heap.size w W→s.size≤1048576→Cb 171 #[.agg (KkV pa pc p ba ca bo cb x m1 m2).toArray,iV h.proto,.string s,iV h.port] W (.tuple #[iV ((lendN p x.binds h.proto s h.port).getD 0),.bool (lendN p x.binds h.proto s h.port).isSome])):=fun W s hW hs=>freePort_any pa pc p ba bo ca cb x m1 m2 x.binds h.proto s h.port W hpo hs he.2.1 hw0 hw1 (hbk.kept hW)
 have HSZ:Hid ((outIn x.binds (outD p h.addr) h.addr).size≤1048576):=outIn_sz hps hgb;have HV:Hid (bindForV p x.binds h=if (x.binds.find? (ofIn h.proto h.addr h.port)).isSome=true then (c,true) else (⟨h.proto,h.addr,h.port,outIn x.binds (outD p h.addr) h.addr,(lendN p x.binds h.proto (outIn x.binds (outD p h.addr) h.addr) h.port).getD 0⟩,(lendN p x.binds h.proto (outIn x.binds (outD p h.addr) h.addr) h.port).isSome)):=by rw [hc]; rfl
 have hsr:=sumV_range h.addr;have HSU:Hid (∀ W,Cb 170 #[.string h.addr] W (iV (sumV h.addr))):=fun W=>(sumOfS_any h.addr W (by have:=he.1; omega)).mono fun e w' hh=>⟨hh.1,by rw [hh.2]; exact Below.refl _ _⟩
 obtain ⟨ix,hix⟩ : ∃ i,i=(sumV h.addr).toNat % p.addrs.length:=⟨_,rfl⟩;have hixl:ix < p.addrs.length:=by rw [hix]; exact Nat.mod_lt _ (by omega)
 have hrem:(sumV h.addr) % (p.addrs.length:Int)=(ix:Int):=by
  obtain ⟨n,hn⟩:=Int.eq_ofNat_of_zero_le hsr.1;rw [hix,hn,Int.toNat_natCast]; rfl
 obtain ⟨bp,op,rfl,hbp,hatp⟩:=hp.at hixl;have HPI:Hid (∀ W,Below w.heap.size w W→W.cell? ⟨bp,op+ix,none⟩=some (.string (outD p h.addr))):=fun W hW=>by
  have hh:=(hatp.below hbp hW) ix hixl 0 _ rfl;have e:outD p h.addr=p.addrs[ix]:=by unfold outD; rw [← hix,List.getElem?_eq_getElem hixl]; rfl
  rw [e]; simpa using hh
 have hixI:(ix:Int) < (p.addrs.length:Int):=by omega
 have hnil:¬ p.addrs=[]:=fun e=>by rw [e] at hp1; simp at hp1
 have hrem2:(sumV h.addr).tmod (p.addrs.length:Int)=(ix:Int):=by rw [Int.tmod_eq_emod_of_nonneg hsr.1]; exact hrem
 have HOS:Hid ((x.binds.find? (ofHost h.addr)).isSome=true→outIn x.binds (outD p h.addr) h.addr=outIn x.binds ⟨#[]⟩ h.addr):=outIn_some;have HON:Hid ((x.binds.find? (ofHost h.addr)).isSome=false→outIn x.binds (outD p h.addr) h.addr=outD p h.addr):=outIn_none;generalize bindForV p x.binds h=ans at *;generalize (x.binds.find? (ofIn h.proto h.addr h.port)).isSome=bd at *;generalize outIn x.binds (outD p h.addr) h.addr=ot at *;generalize outIn x.binds ⟨#[]⟩ h.addr=oe at *;generalize outD p h.addr=od at *;generalize (x.binds.find? (ofHost h.addr)).isSome=mt at *;generalize sumV h.addr=sv at *;clear hc hbk hp hx hgb hps he hpo hatp hbp hix;have hun:undef=Value.tuple #[]:=rfl;unfold bkC enC;go_enter Tryz.func141,Tryz.ntmps141
 go_upto_region 1 with fail
 generalize World.alloc _ _=W at *;obtain ⟨k0,k1,k2,k3,k4,k5,k6,k7,k8,k9,k10,k11,k12,k13⟩:=HK.out.c14;obtain ⟨c0,c1,c2⟩:=HH.out.c3;have LK:=HLK.out W HZ.out;go_upto_region 2 with (at_lookup; refine wpList_look_val rfl _ _ _ _ rfl rfl rfl LK ?_)
 have bn:Below W.heap.size W (W.alloc (.cells (BdV c).toArray 48)):=bR.alloc lR _;have H6:Hid (HoldsL (W.alloc (.cells (BdV c).toArray 48)) W.heap.size (BdV c)):=HoldsL.new W (BdV c) 48;have HZ1:Hid _:=HZ.out.trans (bn.mono HZ.out.size);have HK1:Hid _:=HK.out.kept (by simp) bn;have HH1:Hid _:=HH.out.kept (by simp) bn;have HR1:Hid _:=HR.out.kept (by simp) bn;clear HZ HK HH HR;generalize (W.alloc (.cells (BdV c).toArray 48))=W1 at *;clear bn LK HLK k0 k1 k2 k3 k4 k5 k6 k7 k8 k9 k10 k11 k12 k13 c0 c1 c2
 cases bd with
 | true =>
  have HX:Hid (ans=(c,true)):=by unfold Hid; rw [HV.out,if_pos rfl]
  obtain ⟨y0,y1,y2,y3,y4⟩:=H6.out.c5;obtain ⟨z0,z1,z2,z3,z4⟩:=HR1.out.c5;obtain ⟨zf0,zf1,zf2,zf3,zf4⟩:=HR1.out.f5;go_wp2_with fail
  refine bodyPost_ret (v:=.tuple #[.agg (BdV c).toArray,.bool true]) (by simp [results,Tryz.results141,go_sem,z0,z1,z2,z3,z4]) rfl (And.intro (by rw [HX.out]; rfl) ?_);exact (((((HZ1.out.setCell (p:=⟨w.heap.size+1+1,0,none⟩) hRw _).setCell (p:=⟨w.heap.size+1+1,1,none⟩) hRw _).setCell (p:=⟨w.heap.size+1+1,2,none⟩) hRw _).setCell (p:=⟨w.heap.size+1+1,3,none⟩) hRw _).setCell (p:=⟨w.heap.size+1+1,4,none⟩) hRw _)
 | false =>
  have HV2:Hid (ans=(⟨h.proto,h.addr,h.port,ot,(lendN p x.binds h.proto ot h.port).getD 0⟩,(lendN p x.binds h.proto ot h.port).isSome)):=by unfold Hid; rw [HV.out,if_neg (by simp)]
  clear HV H6;obtain ⟨k0,k1,k2,k3,k4,k5,k6,k7,k8,k9,k10,k11,k12,k13⟩:=HK1.out.c14;obtain ⟨c0,c1,c2⟩:=HH1.out.c3;go_wp2_with fail
  refine (HO.out _ HZ1.out).mono ?_;rintro e W2 ⟨rfl,q2⟩;have HZ2:Hid _:=HZ1.out.trans (q2.mono HZ1.out.size);have HK2:Hid _:=HK1.out.kept (by simp) q2;have HH2:Hid _:=HH1.out.kept (by simp) q2;have HR2:Hid _:=HR1.out.kept (by simp) q2;clear HZ1 HK1 HH1 HR1;clear q2 HO k0 k1 k2 k3 k4 k5 k6 k7 k8 k9 k10 k11 k12 k13 c0 c1 c2
  cases mt with
  | true =>
   obtain rfl:ot=oe:=HOS.out rfl;obtain ⟨k0,k1,k2,k3,k4,k5,k6,k7,k8,k9,k10,k11,k12,k13⟩:=HK2.out.c14;obtain ⟨c0,c1,c2⟩:=HH2.out.c3;go_wp2_with fail
   refine (HF.out _ ot HZ2.out HSZ.out).mono ?_;rintro e W9 ⟨rfl,q9⟩;have HZ9:Hid _:=HZ2.out.trans (q9.mono HZ2.out.size);have HK9:Hid _:=HK2.out.kept (by simp) q9;have HH9:Hid _:=HH2.out.kept (by simp) q9;have HR9:Hid _:=HR2.out.kept (by simp) q9;clear HZ2 HK2 HH2 HR2;clear q9 HF k0 k1 k2 k3 k4 k5 k6 k7 k8 k9 k10 k11 k12 k13 c0 c1 c2;generalize lendN p x.binds h.proto ot h.port=ln at *;obtain ⟨c0,c1,c2⟩:=HH9.out.c3;obtain ⟨z0,z1,z2,z3,z4⟩:=HR9.out.c5;obtain ⟨zf0,zf1,zf2,zf3,zf4⟩:=HR9.out.f5;go_wp2_with fail
   refine bodyPost_ret (v:=.tuple #[.agg (BdR h.proto h.addr h.port ot (ln.getD 0)).toArray,.bool ln.isSome]) (by simp [results,Tryz.results141,go_sem,z0,z1,z2,z3,z4]) rfl (And.intro (by rw [HV2.out]; rfl) ?_);exact (((((HZ9.out.setCell (p:=⟨w.heap.size+1+1,0,none⟩) hRw _).setCell (p:=⟨w.heap.size+1+1,1,none⟩) hRw _).setCell (p:=⟨w.heap.size+1+1,2,none⟩) hRw _).setCell (p:=⟨w.heap.size+1+1,3,none⟩) hRw _).setCell (p:=⟨w.heap.size+1+1,4,none⟩) hRw _)
  | false =>
   obtain rfl:ot=od:=HON.out rfl;go_upto_region 6 with fail
   go_cut [8] (fun v wx=>v=.string ot∧Below W2.heap.size W2 wx)
   case first =>
    rename_i J K2 hJ hK2;clear hun;have HCP:Hid (∀ wy,Below W2.drew.heap.size W2.drew wy→HoldsL wy w.heap.size (KkV (some ⟨bp,op,none⟩) pc p ba ca bo cb x m1 m2)∧HoldsL wy (w.heap.size+1) (EnV h.proto h.addr h.port)∧Below w.heap.size w wy):=fun wy hy=>⟨HK2.out.drew.kept (by simp) hy,HH2.out.drew.kept (by simp) hy,HZ2.out.drew.trans (hy.mono HZ2.out.size)⟩
    refine wp_region_growH [32,33,34,35,36,37,38,39,40,41,42,43,44,8] (by kernel_rfl) (by kernel_rfl) ?_;iterate 2 (apply GCh.u rfl;(·intro K' a wy ho hd hb hK;simp [rAt,IsV,slot,Region.binds] at ho hd;go_simp;(try go_bits);exact hK _ _ rfl bQ);dsimp only [nA,cA])
    apply GCh.v2
    ·rfl
    ·intro K' a wy ho hd hb hK kz;have q1:=hd ⟨1,.data⟩ (by simp) rfl;simp [rAt,IsV,slot] at q1;clear hd ho;obtain ⟨hk,hh,hbw⟩:=HCP.out wy hb;obtain ⟨k0,k1,k2,k3,k4,k5,k6,k7,k8,k9,k10,k11,k12,k13⟩:=hk.c14;obtain ⟨c0,c1,c2⟩:=hh.c3;have hpi:=HPI.out wy hbw;have hpi1:wy.cell? ⟨bp,op+ix*1,none⟩=some (.string ot):=by simpa using hpi
     go_simp;try go_bits
     exact kz _ rfl
    (apply GCh.u rfl;(·intro K' a wy ho hd hb hK;simp [rAt,IsV,slot,Region.binds] at ho hd;go_simp;(try go_bits);exact hK _ _ rfl bQ);dsimp only [nA,cA])
    apply GCh.v4
    ·rfl
    ·intro K' a wy ho hd hb hK kz;have q3:=hd ⟨3,.data⟩ (by simp) rfl;simp [rAt,IsV,slot] at q3;clear hd ho;obtain ⟨hk,hh,hbw⟩:=HCP.out wy hb;obtain ⟨k0,k1,k2,k3,k4,k5,k6,k7,k8,k9,k10,k11,k12,k13⟩:=hk.c14;obtain ⟨c0,c1,c2⟩:=hh.c3;have hpi:=HPI.out wy hbw;have hpi1:wy.cell? ⟨bp,op+ix*1,none⟩=some (.string ot):=by simpa using hpi
     go_simp;try go_bits
     exact kz _ rfl
    iterate 3 (apply GCh.u rfl;(·intro K' a wy ho hd hb hK;simp [rAt,IsV,slot,Region.binds] at ho hd;go_simp;first|((try go_bits);exact hK _ _ rfl bQ)|(refine (HSU.out wy).mono ?_;rintro e wz ⟨rfl,hz⟩;exact hK _ _ rfl hz));dsimp only [nA,cA])
    apply GCh.v8
    ·rfl
    ·intro K' a wy ho hd hb hK kz;have q7:=hd ⟨7,.data⟩ (by simp) rfl;simp [rAt,IsV,slot] at q7;clear hd ho;obtain ⟨hk,hh,hbw⟩:=HCP.out wy hb;obtain ⟨k0,k1,k2,k3,k4,k5,k6,k7,k8,k9,k10,k11,k12,k13⟩:=hk.c14;obtain ⟨c0,c1,c2⟩:=hh.c3;have hpi:=HPI.out wy hbw;have hpi1:wy.cell? ⟨bp,op+ix*1,none⟩=some (.string ot):=by simpa using hpi
     go_simp;try go_bits
     exact kz _ rfl
    iterate 3 (apply GCh.u rfl;(·intro K' a wy ho hd hb hK;simp [rAt,IsV,slot,Region.binds] at ho hd;go_simp;(try go_bits);exact hK _ _ rfl bQ);dsimp only [nA,cA])
    apply GCh.v12
    ·rfl
    ·intro K' a wy ho hd hb hK kz;have q11:=hd ⟨11,.data⟩ (by simp) rfl;simp [rAt,IsV,slot] at q11;clear hd ho;obtain ⟨hk,hh,hbw⟩:=HCP.out wy hb;obtain ⟨k0,k1,k2,k3,k4,k5,k6,k7,k8,k9,k10,k11,k12,k13⟩:=hk.c14;obtain ⟨c0,c1,c2⟩:=hh.c3;have hpi:=HPI.out wy hbw;have hpi1:wy.cell? ⟨bp,op+ix*1,none⟩=some (.string ot):=by simpa using hpi
     go_simp;try go_bits
     exact kz _ rfl
    (apply GCh.u rfl;(·intro K' a wy ho hd hb hK;simp [rAt,IsV,slot,Region.binds] at ho hd;go_simp;(try go_bits);exact hK _ _ rfl bQ);dsimp only [nA,cA])
    intro X wz hR hz;simp only [List.nil_append,List.cons_append,RAll,IsV] at hR;simp only [putsFrom,hR];clear hR;go_simp;refine hK2 _ _ (hJ _ _ ?_);(repeat apply Exists.intro)
    refine ⟨⟨rfl,bR.drew.trans hz⟩,rfl⟩
   case rest =>
   obtain ⟨rfl,qc⟩:=hcut;generalize wc=W3 at *;have HZ3:Hid _:=HZ2.out.trans (qc.mono HZ2.out.size);have HK3:Hid _:=HK2.out.kept (by simp) qc;have HH3:Hid _:=HH2.out.kept (by simp) qc;have HR3:Hid _:=HR2.out.kept (by simp) qc;clear HZ2 HK2 HH2 HR2;clear qc;obtain ⟨k0,k1,k2,k3,k4,k5,k6,k7,k8,k9,k10,k11,k12,k13⟩:=HK3.out.c14;obtain ⟨c0,c1,c2⟩:=HH3.out.c3;go_wp2_with fail
   refine (HF.out _ ot HZ3.out HSZ.out).mono ?_;rintro e W9 ⟨rfl,q9⟩;have HZ9:Hid _:=HZ3.out.trans (q9.mono HZ3.out.size);have HK9:Hid _:=HK3.out.kept (by simp) q9;have HH9:Hid _:=HH3.out.kept (by simp) q9;have HR9:Hid _:=HR3.out.kept (by simp) q9;clear HZ3 HK3 HH3 HR3;clear q9 HF k0 k1 k2 k3 k4 k5 k6 k7 k8 k9 k10 k11 k12 k13 c0 c1 c2;generalize lendN p x.binds h.proto ot h.port=ln at *;obtain ⟨c0,c1,c2⟩:=HH9.out.c3;obtain ⟨z0,z1,z2,z3,z4⟩:=HR9.out.c5;obtain ⟨zf0,zf1,zf2,zf3,zf4⟩:=HR9.out.f5;go_wp2_with fail
   refine bodyPost_ret (v:=.tuple #[.agg (BdR h.proto h.addr h.port ot (ln.getD 0)).toArray,.bool ln.isSome]) (by simp [results,Tryz.results141,go_sem,z0,z1,z2,z3,z4]) rfl (And.intro (by rw [HV2.out]; rfl) ?_);exact (((((HZ9.out.setCell (p:=⟨w.heap.size+1+1,0,none⟩) hRw _).setCell (p:=⟨w.heap.size+1+1,1,none⟩) hRw _).setCell (p:=⟨w.heap.size+1+1,2,none⟩) hRw _).setCell (p:=⟨w.heap.size+1+1,3,none⟩) hRw _).setCell (p:=⟨w.heap.size+1+1,4,none⟩) hRw _)
def metB (h:En) (peer:ByteArray) (s:Ss):Bool:=sameEn (sessE s) h&&decide (s.peer.toList=peer.toList)
def admitV (p:Pl) (x:Bb) (h:En) (peer:ByteArray):Bool:=if p.filter=0 then true else if p.filter=1 then x.sess.any (metB h peer) else false
def sessH (p:Pl) (t:Tc) (h:En) (st now:Int):Ss:=⟨h.proto,h.addr,h.port,t.peer,t.peerPort,st,now+trackLifeV p.lv t.proto st⟩
def growB (p:Pl) (xs:List Bd) (h:En):List Bd:=if (xs.find? (ofIn h.proto h.addr h.port)).isSome=true then xs else xs++[(bindForV p xs h).1]
def beginV (p:Pl) (x:Bb) (h:En) (t:Tc) (now:Int):Bo :=
 if trackNewV t.proto t.inside t.flags=0 then boE 6
 else if (!t.inside&&!admitV p x h t.peer)=true then boE 6
 else if (x.sess.length:Int)=p.most then boE 9
 else if (bindForV p x.binds h).2=false then boE 9
 else ⟨⟨growB p x.binds h,x.sess++[sessH p t h (trackNewV t.proto t.inside t.flags) now]⟩,(bindForV p x.binds h).1,0⟩
def hostV (x:Bb) (t:Tc):En × Bool:=if t.inside=true then (⟨t.proto,t.addr,t.port⟩,true) else (hostE ((x.binds.find? (ofOut t.proto t.addr t.port)).getD bdZ),(x.binds.find? (ofOut t.proto t.addr t.port)).isSome)
def keyT (h:En) (t:Tc):Sk:=⟨h,t.peer,t.peerPort⟩
def goI (p:Pl) (x:Bb) (t:Tc) (now:Int):Bo :=
 if (hostV x t).2=false then boE 6
 else match x.sess.findIdx? (fun s=>sameSk (sessK s) (keyT (hostV x t).1 t)) with
  | none=>beginV p x (hostV x t).1 t now
  | some i=>⟨⟨x.binds,setN x.sess i (nextS p t now)⟩,(x.binds.find? (ofIn (hostV x t).1.proto (hostV x t).1.addr (hostV x t).1.port)).getD bdZ,0⟩
theorem baT_ext {a b:ByteArray} (h:a.toList=b.toList):a=b:=by
 rw [ByteArray.toList_eq,ByteArray.toList_eq] at h;apply ByteArray.ext;exact Array.toList_inj.1 h
theorem sameEn_same (q p:En):sameEn q p=true↔q=p:=by
 rw [sameEn_eq];simp only [Bool.and_eq_true,decide_eq_true_iff];constructor
 ·rintro ⟨⟨h1,h2⟩,h3⟩;have h4:=baT_ext h2
  cases q; cases p; simp_all
 ·rintro rfl; simp
theorem ofIn_host {h:En} {c:Bd}:ofIn h.proto h.addr h.port c=true↔hostE c=h:=by
 rw [← host_in]; exact sameEn_same _ _
theorem withP_key {c:Bd} {h:En} (hc:hostE c=h) (t:Tc) (s:Ss):withP c t.peer t.peerPort s=sameSk (sessK s) (keyT h t):=by
 unfold withP sameSk keyT;rw [← sess_has,hc];show _=(sameEn (sessE s) h&&((s.peer.toList==t.peer.toList)&&(s.peerPort==t.peerPort)));rw [Bool.eq_iff_iff]; simp [and_assoc]
theorem withA_met {c:Bd} {h:En} (hc:hostE c=h) (peer:ByteArray) (s:Ss):withA c peer s=metB h peer s:=by
 unfold withA metB; rw [← sess_has,hc]
theorem book_sess {p:Pl} {x:Bb} (hok:bookOk p x=true) {s:Ss} (hs:s∈x.sess):x.binds.any (ofIn s.proto s.inn s.inPort)=true:=by
 unfold bookOk at hok;simp only [Bool.and_eq_true] at hok;obtain ⟨i,hi,rfl⟩:=List.getElem_of_mem hs;have:=upN_iff.1 hok.2 i hi;unfold sessB at this;simp only [Bool.and_eq_true] at this;exact this.1.1
theorem book_one {p:Pl} {x:Bb} (hok:bookOk p x=true) {c d:Bd} (hc:c∈x.binds) (hd:d∈x.binds) (he:hostE c=hostE d):c=d:=by
 unfold bookOk at hok;simp only [Bool.and_eq_true] at hok;have hF:=upN_iff.1 hok.1.2;obtain ⟨i,hi,rfl⟩:=List.getElem_of_mem hc;obtain ⟨j,hj,rfl⟩:=List.getElem_of_mem hd;have key:∀ i j (hi:i < x.binds.length) (hj:j < x.binds.length),i < j→hostE x.binds[i]=hostE x.binds[j]→False:=by
  intro i j hi hj hij he;have h1:=hF j hj;unfold fitB at h1;simp only [Bool.and_eq_true,Bool.not_eq_true'] at h1;have h6:=h1.1.1.1.2;refine List.any_eq_false.1 h6 x.binds[i] (take_mem hi hij) ?_;exact (ofIn_host (h:=hostE x.binds[j])).2 he
 rcases Nat.lt_trichotomy i j with h | h | h
 ·exact (key i j hi hj h he).elim
 ·subst h; rfl
 ·exact (key j i hj hi h he.symm).elim
theorem book_find {p:Pl} {x:Bb} (hok:bookOk p x=true) {c:Bd} (hc:c∈x.binds) {h:En} (he:hostE c=h):x.binds.find? (ofIn h.proto h.addr h.port)=some c:=by
 cases hf:x.binds.find? (ofIn h.proto h.addr h.port) with
 | none =>
  have:=List.find?_eq_none.1 hf c hc;exact absurd (ofIn_host.2 he) this
 | some d =>
  have h1:=List.mem_of_find?_eq_some hf;have h2:=ofIn_host.1 (List.find?_some hf);rw [book_one hok h1 hc (h2.trans he.symm)]
theorem bindFor_host (p:Pl) (xs:List Bd) (h:En):hostE (bindForV p xs h).1=h:=by
 unfold bindForV;split
 ·rename_i hs
  cases hf:xs.find? (ofIn h.proto h.addr h.port) with
  | none=>rw [hf] at hs; simp at hs
  | some c=>exact ofIn_host.1 (List.find?_some hf)
 ·rfl
theorem findI_neg {α:Type} {f:α→Bool} {xs:List α}:findI f xs < 0↔(xs.find? f).isSome=false:=by
 rw [find_some_any,← findI_any]; simp
theorem grow_new (p:Pl) (xs:List Bd) (h:En):newB xs (bindForV p xs h).1=growB p xs h:=by
 have e:=bindFor_host p xs h;generalize hc:(bindForV p xs h).1=c at *;have e2:ofIn c.proto c.inn c.inPort=ofIn h.proto h.addr h.port:=by rw [← e]; rfl
 unfold newB growB;rw [e2,hc]
 cases hs:(xs.find? (ofIn h.proto h.addr h.port)).isSome with
 | true=>rw [if_neg (fun hh=>by rw [findI_neg,hs] at hh; exact absurd hh (by decide)),if_pos rfl]
 | false=>rw [if_pos (findI_neg.2 hs),if_neg (by decide)]
theorem sess_h (p:Pl) (t:Tc) (h:En) (c:Bd) (st now:Int) (he:hostE c=h) (hp:h.proto=t.proto):sessN p t c st now=sessH p t h st now:=by
 subst he;unfold sessN sessH;rw [hp]; rfl
theorem begin_in {p:Pl} {x:Bb} {t:Tc} (c:Bd) (now:Int) (hm:(x.sess.length:Int)≤p.most) (hin:t.inside=true):newV p x t c now=beginV p x ⟨t.proto,t.addr,t.port⟩ t now:=by
 unfold newV beginV;by_cases h0:trackNewV t.proto t.inside t.flags=0
 ·rw [if_pos h0,if_pos h0]
 have ha:¬ (!t.inside&&!admitV p x ⟨t.proto,t.addr,t.port⟩ t.peer)=true:=by rw [hin]; simp
 rw [if_neg h0,if_neg h0,if_neg ha];by_cases h1:(x.sess.length:Int)=p.most
 ·have h2:p.most≤(x.sess.length:Int):=by omega
  rw [if_pos h1,if_pos h2]
 have h2:¬ p.most≤(x.sess.length:Int):=by omega
 rw [if_neg h1,if_neg h2];clear h2;have hl:=bindFor_lend p x.binds ⟨t.proto,t.addr,t.port⟩;dsimp only at hl;rw [hin,if_pos rfl,hl]
 cases h2:(bindForV p x.binds ⟨t.proto,t.addr,t.port⟩).2 with
 | false=>simp [boE]
 | true =>
  simp only [if_true,ne_eq,not_true_eq_false,if_false,Bool.true_eq_false];rw [grow_new,sess_h p t ⟨t.proto,t.addr,t.port⟩ _ _ now (bindFor_host _ _ _) rfl]
theorem begin_out {p:Pl} {x:Bb} {t:Tc} {c:Bd} {now:Int} (hok:bookOk p x=true) (hfl:p.filter=0∨p.filter=1∨p.filter=2) (hm:(x.sess.length:Int)≤p.most) (hin:t.inside=false) (hc:c∈x.binds) (hp:c.proto=t.proto):(if goneB p x t c=true then boE 6 else newV p x t c now)=beginV p x (hostE c) t now:=by
 have hf:=book_find hok hc (h:=hostE c) rfl;have hb:bindForV p x.binds (hostE c)=(c,true):=by unfold bindForV; rw [hf]; rfl
 have hg:goneB p x t c=(!t.inside&&!admitV p x (hostE c) t.peer):=by
  unfold goneB admitV;rw [show withA c t.peer=metB (hostE c) t.peer from funext fun s=>withA_met rfl _ s];rcases hfl with h | h | h<;>rw [h]<;>simp
 rw [hg];unfold newV beginV
 cases hd:(!t.inside&&!admitV p x (hostE c) t.peer) with
 | true=>simp
 | false =>
  simp only [Bool.false_eq_true,if_false];by_cases h0:trackNewV t.proto t.inside t.flags=0
  ·rw [if_pos h0,if_pos h0]
  rw [if_neg h0,if_neg h0];by_cases h1:(x.sess.length:Int)=p.most
  ·have h2:p.most≤(x.sess.length:Int):=by omega
   rw [if_pos h1,if_pos h2]
  have h2:¬ p.most≤(x.sess.length:Int):=by omega
  rw [if_neg h1,if_neg h2,hb,hin];simp only [Bool.false_eq_true,if_false,ne_eq,not_true_eq_false,Bool.true_eq_false];rw [show newB x.binds c=growB p x.binds (hostE c) from by rw [← grow_new,hb],sess_h p t (hostE c) c _ now rfl hp]
theorem pool_filter {p:Pl} (h:poolOk p=true):p.filter=0∨p.filter=1∨p.filter=2:=by
 unfold poolOk at h; simp only [Bool.and_eq_true] at h;have:=isIn_parts h.1.1.2;omega
theorem go_same {p:Pl} {x:Bb} {t:Tc} {now:Int} (hok:bookOk p x=true):goI p x t now=goV p x t now:=by
 have hk:=hok;unfold bookOk at hk;simp only [Bool.and_eq_true,decide_eq_true_iff] at hk;have hpo:=hk.1.1.1.1;have hm:=hk.1.1.1.2;clear hk;unfold goI goV hostV
 cases hin:t.inside with
 | true =>
  simp only [if_true,Bool.true_eq_false,if_false]
  cases hf:x.binds.find? (ofIn t.proto t.addr t.port) with
  | none =>
   have hn:x.sess.findIdx? (fun s=>sameSk (sessK s) (keyT ⟨t.proto,t.addr,t.port⟩ t))=none:=by
    rw [List.findIdx?_eq_none_iff];intro s hs
    cases hh:sameSk (sessK s) (keyT ⟨t.proto,t.addr,t.port⟩ t) with
    | false=>rfl
    | true =>
     unfold sameSk at hh;simp only [Bool.and_eq_true] at hh;have h1:sessE s=⟨t.proto,t.addr,t.port⟩:=(sameEn_same _ _).1 hh.1;obtain ⟨d,hd,hq⟩:=List.any_eq_true.1 (book_sess hok hs);have h2:hostE d=sessE s:=(ofIn_host (h:=sessE s)).1 hq;exact absurd ((ofIn_host (h:=⟨t.proto,t.addr,t.port⟩)).2 (h2.trans h1)) (List.find?_eq_none.1 hf d hd)
   rw [hn];exact (begin_in bdZ now hm hin).symm
  | some c =>
   have hc:=List.mem_of_find?_eq_some hf;have he:hostE c=⟨t.proto,t.addr,t.port⟩:=(ofIn_host (h:=⟨t.proto,t.addr,t.port⟩)).1 (List.find?_some hf);dsimp only;rw [show withP c t.peer t.peerPort=fun s=>sameSk (sessK s) (keyT ⟨t.proto,t.addr,t.port⟩ t) from funext fun s=>withP_key he t s]
   cases x.sess.findIdx? (fun s=>sameSk (sessK s) (keyT ⟨t.proto,t.addr,t.port⟩ t)) with
   | none =>
    dsimp only;rw [if_neg (by unfold goneB; rw [hin]; simp)];exact (begin_in c now hm hin).symm
   | some i=>rfl
 | false =>
  simp only [Bool.false_eq_true,if_false]
  cases hf:x.binds.find? (ofOut t.proto t.addr t.port) with
  | none=>rfl
  | some c =>
   have hc:=List.mem_of_find?_eq_some hf;have hp:c.proto=t.proto:=by
    have:=List.find?_some hf;unfold ofOut at this;simp only [Bool.and_eq_true,decide_eq_true_iff] at this;exact this.1.1
   simp only [Option.isSome_some,Bool.true_eq_false,if_false,Option.getD_some];rw [show withP c t.peer t.peerPort=fun s=>sameSk (sessK s) (keyT (hostE c) t) from funext fun s=>withP_key rfl t s]
   cases x.sess.findIdx? (fun s=>sameSk (sessK s) (keyT (hostE c) t)) with
   | none=>exact (begin_out hok (pool_filter hpo) hm hin hc hp).symm
   | some i =>
    dsimp only;rw [book_find hok hc rfl]; rfl
theorem touch_same (p:Pl) (x:Bb) (t:Tc) (now:Int):(if (bookOk p x&&isTime now&&touchOk t)=true then goI p x t now else boE 1)=bibTouchV p x t now:=by
 unfold bibTouchV;rw [book_bib];by_cases h:(bibOk p x&&isTime now&&touchOk t)=true
 ·rw [if_pos h,if_pos h];refine go_same ?_;rw [book_bib];simp only [Bool.and_eq_true] at h;exact h.1.1
 ·rw [if_neg h,if_neg h]
theorem wp_append_run {P:Program} {o:Oper} {a:Act} {w w':World} {v1 v2 v':Value} {K:Act→World→Prop} {Q:Exit→Act→World→Prop} (s x:Operand) (t:TypeId) (hop:o.op=Op.call { callee:=Callee.builtin Builtin.append,args:=#[s,x],argTypes:=#[t,t] })
  (hs:a.eval s=v1) (hx:a.eval x=v2) (hrun:(Builtin.append_ #[t,t] o.type #[v1,v2]).run P w=.ok v' w') (hK:K (a.put o.dst v') w'):Oper.wp P o a w K Q:=by
 unfold Oper.wp;simp [execOp,hop,resolve,invoke,builtin,hs,hx,hrun,Result.andThen];exact hK
theorem wpList_append_run {P:Program} {ops:Array Oper} {rest:List Oper} {o:Oper} {a:Act} {w w':World} {v1 v2 v':Value} {Q:Exit→Act→World→Prop} (hg:o.guard=none) (s x:Operand) (t:TypeId) (hop:o.op=Op.call { callee:=Callee.builtin Builtin.append,args:=#[s,x],argTypes:=#[t,t] })
  (hs:a.eval s=v1) (hx:a.eval x=v2) (hrun:(Builtin.append_ #[t,t] o.type #[v1,v2]).run P w=.ok v' w') (hK:wpList P ops Q rest (a.put o.dst v') w'):wpList P ops Q (o::rest) a w :=
 wpList_plain hg fun K hK'=>wp_append_run s x t hop hs hx hrun (hK' _ _ hK)
theorem own_stable {base n z:Nat} {e:TypeId} {v:Value} {xs:List Value} {w w':World} (h:w.ownsRow base e z v n xs) (hb:Below w.heap.size w w'):w'.ownsRow base e z v n xs:=h.kept (grown_of_below (r:=none) hb) (by cases v.ownBlock<;>simp)
theorem ownC_cell {w:World} {base n s X j:Nat} {e:TypeId} {v u:Value} {xs:List Value} (h:w.ownsRow base e s v n xs) (hne:v.ownBlock≠some X):(w.setCell ⟨X,j,none⟩ u).ownsRow base e s v n xs:=by
 obtain ⟨h1,h2⟩:=h;refine ⟨h1,?_⟩;rcases h2 with h2 | ⟨g,cap,cur,rfl,hg,hh,h3⟩
 ·exact .inl h2
 ·exact .inr ⟨g,cap,cur,rfl,hg,(Below.heap_setCell w _ u g (fun e=>hne (by simpa [Value.ownBlock] using e))).trans hh,h3⟩
theorem ownC_in {w:World} {base n s g:Nat} {e:TypeId} {v:Value} {xs:List Value} (h:w.ownsRow base e s v n xs) (hg:v.ownBlock=some g):base≤g∧g < w.heap.size:=by
 rcases h.2 with ⟨rfl,_⟩ | ⟨g',cap,cur,rfl,hb,hh,_⟩
 ·simp [Value.ownBlock] at hg
 ·simp [Value.ownBlock] at hg; subst hg; exact ⟨hb,(Array.getElem?_eq_some_iff.1 hh).1⟩
theorem ownC_ne {w:World} {base n s:Nat} {e:TypeId} {v:Value} {xs:List Value} (h:w.ownsRow base e s v n xs) {X:Nat} (hX:X < base):v.ownBlock≠some X:=fun e=>by have:=(ownC_in h e).1; omega
theorem bdL_one (q:Bd):∀ u∈bdL q,u.oneCell'=true:=fun u hu=>by simp [bdL] at hu; rcases hu with rfl | rfl | rfl | rfl | rfl<;>rfl
theorem ssL_one (q:Ss):∀ u∈ssL q,u.oneCell'=true:=fun u hu=>by simp [ssL] at hu; rcases hu with rfl | rfl | rfl | rfl | rfl | rfl | rfl<;>rfl
theorem add_at (g i:Nat):(⟨g,0,none⟩ : Addr).add i=⟨g,i,none⟩:=by cases i<;>simp [Addr.add]
structure TickSt (w:World) (cs:List Value) (bv sv:Value) (ys:List Bd) (zs:List Ss) (wx:World):Prop where
 x:HoldsL wx w.heap.size cs
 r:HoldsL wx (w.heap.size+1) [.slice none 0 0,.slice none 0 0]
 o:HoldsL wx (w.heap.size+1+1) [bv,sv]
 bo:wx.ownsRow (w.heap.size+1+1+1) 48 5 bv ys.length (flatS bdL ys)
 so:wx.ownsRow (w.heap.size+1+1+1) 59 7 sv zs.length (flatS ssL zs)
 b:Below w.heap.size w wx
 ne:∀ g,bv.ownBlock=some g→sv.ownBlock=some g→False
section
variable {w:World} {cs:List Value} {bv sv:Value} {ys:List Bd} {zs:List Ss} {wx wy:World}
theorem below_grow {row:Option Nat} (hb:Below w.heap.size w wx) (hg:wx.grownBy wy row) (hr:∀ g,row=some g→w.heap.size≤g):Below w.heap.size w wy :=
 ⟨hg.os.trans hb.os,hg.tape.trans hb.tape,hg.output.trans hb.output,Nat.le_trans hb.size hg.size,fun k hk=>by
  rw [hg.block k (Nat.lt_of_lt_of_le hk hb.size) (fun e=>by have:=hr k e.symm; omega)]; exact hb.block k hk⟩
end
def IsOneC (cs:List Value):Value→World→Prop:=fun v w=>∃ g,v=.slice (some ⟨g,0,none⟩) 1 1∧HoldsL w g cs
theorem stable_isOneC (cs:List Value) (hl:0 < cs.length):Stable (IsOneC cs):=fun v w w' ⟨g,h1,h2⟩ hb=>⟨g,h1,h2.kept hl hb⟩
structure RowsSt (w:World) (base O:Nat) (ks:List (Nat × List Value)) (bv sv:Value) (ys:List Bd) (zs:List Ss) (wx:World):Prop where
 o:HoldsL wx O [bv,sv]
 bo:wx.ownsRow base 48 5 bv ys.length (flatS bdL ys)
 so:wx.ownsRow base 59 7 sv zs.length (flatS ssL zs)
 ne:∀ g,bv.ownBlock=some g→sv.ownBlock=some g→False
 b:Below w.heap.size w wx
 k:∀ e∈ks,HoldsL wx e.1 e.2
 lo:w.heap.size≤O
 hi:O < base
 hb:base≤wx.heap.size
 kb:∀ e∈ks,e.1 < base∧e.1≠O∧0 < e.2.length
section
variable {w:World} {base O:Nat} {ks:List (Nat × List Value)} {bv sv:Value} {ys:List Bd} {zs:List Ss} {wx wy:World}
theorem RowsSt.at {a:Nat} {l:List Value} (h:RowsSt w base O ks bv sv ys zs wx) (hm:(a,l)∈ks):HoldsL wx a l:=h.k _ hm
theorem RowsSt.kept (h:RowsSt w base O ks bv sv ys zs wx) (hB:Below wx.heap.size wx wy):RowsSt w base O ks bv sv ys zs wy :=
 ⟨h.o.kept (by simp) hB,own_stable h.bo hB,own_stable h.so hB,h.ne,h.b.trans (hB.mono h.b.size),fun e he=>(h.k e he).kept (h.kb e he).2.2 hB,h.lo,h.hi,Nat.le_trans h.hb hB.size,h.kb⟩
theorem RowsSt.start {w:World} {O:Nat} {wx:World} (ks:List (Nat × List Value)) (ho:HoldsL wx O [.slice none 0 0,.slice none 0 0]) (hb:Below w.heap.size w wx) (hk:∀ e∈ks,HoldsL wx e.1 e.2) (hl:w.heap.size≤O) (hkb:∀ e∈ks,e.1 < wx.heap.size∧e.1≠O∧0 < e.2.length):RowsSt w wx.heap.size O ks (.slice none 0 0) (.slice none 0 0) [] [] wx :=
 ⟨ho,⟨by simp [flatS],.inl ⟨rfl,rfl⟩⟩,⟨by simp [flatS],.inl ⟨rfl,rfl⟩⟩,fun g e=>by simp [Value.ownBlock] at e,hb,hk,hl,ho.lt (by simp),Nat.le_refl _,hkb⟩
theorem RowsSt.appS (h:RowsSt w base O ks bv sv ys zs wx) (q:Ss) (g:Nat) (hg:HoldsL wx g (ssL q)) (hlen:zs.length≤1048576) :
  ∃ v6 w6,(Builtin.append_ #[29,29] 29 #[sv,.slice (some ⟨g,0,none⟩) 1 1]).run Tryz.prog wx=.ok v6 w6∧(∃ gg l c,v6=.slice (some ⟨gg,0,none⟩) l c)∧HoldsL w6 O [bv,sv]∧RowsSt w base O ks bv v6 ys (zs++[q]) (w6.setCell ⟨O,1,none⟩ v6):=by
 obtain ⟨i0,hi,hz0,hz1,hz2⟩:=info_parts Tryz.infoSs;have hOb:=h.hi;have hlo:=h.lo;have hbb:=h.hb;obtain ⟨v6,w6,hrun,h62,h63,h64,h65⟩:=run_append_own_at (P:=Tryz.prog) wx base 29 29 59 i0 _ 7 _ Tryz.underlying29 hi hz0 hz1 hz2 rfl (by decide) sv _ _ h.so ⟨g,0,none⟩ 1 1 (ssL q) rfl (fun i u hu=>by rw [add_at]; exact hg.cell hu) (ssL_one q) (by unfold maxLen; omega) (by omega) h.hb;have hnr:∀ X,X < base→some X≠sv.ownBlock:=fun X hX e=>ownC_ne h.so hX e.symm
 have n6:v6.ownBlock≠some O:=by
  rcases h65 with h7 | h7<;>rw [h7]
  ·exact ownC_ne h.so (by omega)
  ·intro e; injection e with e; omega
 have hO:=h.o.grown (by simp) h63 (hnr _ (by omega));have hne:∀ g,bv.ownBlock=some g→v6.ownBlock=some g→False:=by
  intro g e1 e2;rcases h65 with h7 | h7
  ·exact h.ne g e1 (h7 ▸ e2)
  ·rw [h7] at e2;injection e2 with e3
   have:=(ownC_in h.bo e1).2;omega
 have hold:=World.ownsRow.kept h.bo h63 (by
  by_cases e:bv.ownBlock=none
  ·exact .inl e
  ·refine .inr (fun e2=>?_);obtain ⟨k,hk⟩:=Option.ne_none_iff_exists'.1 e;exact h.ne k hk (e2 ▸ hk))
 have hsz:base≤(w6.setCell ⟨O,1,none⟩ v6).heap.size:=by simp; exact Nat.le_trans h.hb h63.size
 refine ⟨v6,w6,hrun,?_,hO,hO.set 1 v6,ownC_cell hold (ownC_ne h.bo (by omega)),ownC_cell (by rw [flatS_snoc,List.length_append]; exact h62) n6,hne,(below_grow h.b h63 (fun k e=>by have:=(ownC_in h.so e).1; omega)).setCell (p:=⟨O,1,none⟩) hlo v6,fun e he=>((h.k e he).grown (h.kb e he).2.2 h63 (hnr _ (h.kb e he).1)).setOther (h.kb e he).2.1 v6,h.lo,h.hi,hsz,h.kb⟩;rcases h62.2 with ⟨_,h0⟩ | ⟨gg,c6,_,h6,_⟩
 ·simp at h0
 ·exact ⟨gg,_,c6,h6⟩
theorem RowsSt.appB (h:RowsSt w base O ks bv sv ys zs wx) (q:Bd) (g:Nat) (hg:HoldsL wx g (bdL q)) (hlen:ys.length≤1048576) :
  ∃ v6 w6,(Builtin.append_ #[28,28] 28 #[bv,.slice (some ⟨g,0,none⟩) 1 1]).run Tryz.prog wx=.ok v6 w6∧(∃ gg l c,v6=.slice (some ⟨gg,0,none⟩) l c)∧HoldsL w6 O [bv,sv]∧RowsSt w base O ks v6 sv (ys++[q]) zs (w6.setCell ⟨O,0,none⟩ v6):=by
 obtain ⟨i0,hi,hz0,hz1,hz2⟩:=info_parts Tryz.infoBd;have hOb:=h.hi;have hlo:=h.lo;have hbb:=h.hb;obtain ⟨v6,w6,hrun,h62,h63,h64,h65⟩:=run_append_own_at (P:=Tryz.prog) wx base 28 28 48 i0 _ 5 _ Tryz.underlying28 hi hz0 hz1 hz2 rfl (by decide) bv _ _ h.bo ⟨g,0,none⟩ 1 1 (bdL q) rfl (fun i u hu=>by rw [add_at]; exact hg.cell hu) (bdL_one q) (by unfold maxLen; omega) (by omega) h.hb;have hnr:∀ X,X < base→some X≠bv.ownBlock:=fun X hX e=>ownC_ne h.bo hX e.symm
 have n6:v6.ownBlock≠some O:=by
  rcases h65 with h7 | h7<;>rw [h7]
  ·exact ownC_ne h.bo (by omega)
  ·intro e; injection e with e; omega
 have hO:=h.o.grown (by simp) h63 (hnr _ (by omega));have hne:∀ g,v6.ownBlock=some g→sv.ownBlock=some g→False:=by
  intro g e1 e2;rcases h65 with h7 | h7
  ·exact h.ne g (h7 ▸ e1) e2
  ·rw [h7] at e1;injection e1 with e3
   have:=(ownC_in h.so e2).2;omega
 have hold:=World.ownsRow.kept h.so h63 (by
  by_cases e:sv.ownBlock=none
  ·exact .inl e
  ·refine .inr (fun e2=>?_);obtain ⟨k,hk⟩:=Option.ne_none_iff_exists'.1 e;exact h.ne k (e2 ▸ hk) hk)
 have hsz:base≤(w6.setCell ⟨O,0,none⟩ v6).heap.size:=by simp; exact Nat.le_trans h.hb h63.size
 refine ⟨v6,w6,hrun,?_,hO,hO.set 0 v6,ownC_cell (by rw [flatS_snoc,List.length_append]; exact h62) n6,ownC_cell hold (ownC_ne h.so (by omega)),hne,(below_grow h.b h63 (fun k e=>by have:=(ownC_in h.bo e).1; omega)).setCell (p:=⟨O,0,none⟩) hlo v6,fun e he=>((h.k e he).grown (h.kb e he).2.2 h63 (hnr _ (h.kb e he).1)).setOther (h.kb e he).2.1 v6,h.lo,h.hi,hsz,h.kb⟩;rcases h62.2 with ⟨_,h0⟩ | ⟨gg,c6,_,h6,_⟩
 ·simp at h0
 ·exact ⟨gg,_,c6,h6⟩
theorem RowsSt.shapes (h:RowsSt w base O ks bv sv ys zs wx):(∃ a cap,bv=.slice a ys.length cap∧ys.length≤cap∧SlOwn bdL 5 base wx a ys)∧∃ a cap,sv=.slice a zs.length cap∧zs.length≤cap∧SlOwn ssL 7 base wx a zs :=
 ⟨Row.shape bdL_length (w0:=wx) ⟨h.bo,Below.refl _ _⟩,Row.shape ssL_length (w0:=wx) ⟨h.so,Below.refl _ _⟩⟩
end
end Go.Proofs.YtdkepkaflielhaaGreatDoor
