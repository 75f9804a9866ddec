import Derived.Test.YtdkepkaflielhaaGreatDoorAb
import Derived.Test.YtdkepkaflielhaaGreatDoorIFits
import Derived.Test.YtdkepkaflielhaaGreatDoorMerged1
import Derived.Test.YtdkepkaflielhaaGreatDoorMerged6
set_option linter.unusedVariables false
set_option linter.unusedSimpArgs false
set_option maxRecDepth 100000
set_option maxHeartbeats 8000000
namespace Go.Proofs.YtdkepkaflielhaaGreatDoor
open Go.RowKit Go.PlainAid
theorem free_any (xs:List Bd) (proto:Int) (s:ByteArray) (n:Int):freeP xs proto s n=!xs.any (ofOut proto s n):=by
 unfold freeP;rw [← findI_any];by_cases h:findI (ofOut proto s n) xs < 0
 ·rw [decide_eq_true h,decide_eq_false (by omega)]; rfl
 ·rw [decide_eq_false h,decide_eq_true (by omega)]; rfl
theorem lendN_or (p:Pl) (xs:List Bd) (proto:Int) (s:ByteArray) (wish:Int):lendN p xs proto s wish=if (isIn wish p.low p.high&&freeP xs proto s wish)=true then some wish else (leastN (fun n=>decide (n % 2=wish % 2)&&freeP xs proto s n) p.low (p.high-p.low+1).toNat).or (leastN (freeP xs proto s) p.low (p.high-p.low+1).toNat):=by
 unfold lendN;split
 ·rfl
 ·cases leastN (fun n=>decide (n % 2=wish % 2)&&freeP xs proto s n) p.low (p.high-p.low+1).toNat<;>rfl
theorem least_any (f:Int→Bool) (L:Int→Option Int) (I:Int→Prop) (st lo hi:Int) (F:Nat) (hG:Enters F) (caps:Array Value) (w:World) (h0:0≤lo) (hlo:lo≤65540) (hhi:hi≤65535) (hst1:1≤st) (hst2:st≤2) (hIs:I lo) (hIn:∀ n,I n→I (n+st)) (hL:∀ n,I n→n≤hi→L n=if f n=true then some n else L (n+st)) (hE:∀ n,I n→hi < n→L n=none)
  (hC:∀ W,Below w.heap.size w W→∀ n,0≤n→n≤65535→Calls Tryz.prog F (#[iV n]++caps) W fun e w'=>e=.returned (.bool (f n))∧Below W.heap.size W w') :
  Cb 183 #[iV lo,iV hi,iV st,.func (.func F) #[] caps] w (.tuple #[iV ((L lo).getD 0),.bool (L lo).isSome]):=by
 have HC:Hid _:=hC;have HL:Hid _:=hL;have HE:Hid _:=hE;have HIN:Hid (∀ n,I n→I (n+st)):=hIn;obtain ⟨lv,hlv⟩ : ∃ y,y=L lo:=⟨_,rfl⟩;have HLV:Hid (lv=L lo):=hlv;rw [← hlv];clear hC hL hE hIn hlv;unfold Enters at hG;go_enter Tryz.func183,Tryz.ntmps183
 go_wp2_with fail
 go_loopw [10] (fun pv wr=>∃ n:Int,0≤n∧n≤65540∧pv=iV n∧Hid (I n)∧Hid (lv=L n)∧Below w.heap.size w wr) (fun pv _=>(65541-intOf pv).toNat)
 case atStart=>exact ⟨lo,by omega,by omega,rfl,hIs,HLV.out,Below.refl _ _⟩
 case round =>
  obtain ⟨n,hn0,hn1,rfl,hin,hln,hb⟩:=hrel;have HB:Hid (Below w.heap.size w wr):=hb;clear hb;by_cases hle:n≤hi
  ·have HC2:Hid _:=HC.out wr HB.out n hn0 (by omega);have HL2:Hid _:=HL.out n hin.out hle;obtain ⟨fb,hfb⟩ : ∃ y,y=f n:=⟨_,rfl⟩;rw [← hfb] at HC2 HL2;clear hfb;go_wp2_with fail
   refine Calls.mono HC2.out ?_;rintro e w1 ⟨rfl,q1⟩;have HB1:Hid _:=HB.out.trans (q1.mono HB.out.size);clear q1
   cases fb with
   | true =>
    have HX:Hid (lv=some n):=by unfold Hid; rw [hln.out,HL2.out,if_pos rfl]
    go_wp2_with fail
    go_ret2
    exact ⟨by rw [HX.out]; rfl,HB1.out⟩
   | false =>
    have HX:Hid (lv=L (n+st)):=by unfold Hid; rw [hln.out,HL2.out,if_neg (by simp)]
    have HI2:Hid (I (n+st)):=HIN.out n hin.out;go_wp2_with fail
    go_roundw
    case rel=>exact ⟨n+st,by omega,by omega,rfl,HI2,HX,HB1.out⟩
    case measure=>simp [intOf]; omega
  ·have HX:Hid (lv=none):=by unfold Hid; rw [hln.out]; exact HE.out n hin.out (by omega)
   have hgt:hi < n:=by omega
   go_wp2_with fail
   go_ret2
   exact ⟨by rw [HX.out]; rfl,HB.out⟩
theorem free1_any (pa:Option Addr) (pc:Nat) (p:Pl) (ba bo:Option Addr) (ca cb:Nat) (x:Bb) (m1 m2:Nat) (xs:List Bd) (proto:Int) (s:ByteArray) (port:Int) (B4 B5 B6:Nat) (w:World) (he:EnIn ⟨proto,s,port⟩) (hk:HoldsL w B4 (KkV pa pc p ba ca bo cb x m1 m2)) (h5:HoldsL w B5 [iV proto]) (h6:HoldsL w B6 [.string s]) (hbk:BookAt w m1 m2 xs xs) :
  Cb 182 #[iV port,.pointer (some ⟨B4,0,none⟩),.pointer (some ⟨B5,0,none⟩),.pointer (some ⟨B6,0,none⟩)] w (.bool (freeP xs proto s port)):=by
 obtain ⟨c,hc⟩ : ∃ c,c=(xs.find? fun q=>sameEn (lentE q) ⟨proto,s,port⟩).getD bdZ:=⟨_,rfl⟩;have LK:(Instr.lookup 137 (.map (some m2)) (.agg (EnV proto s port).toArray) true).run Tryz.prog w=.ok (.tuple #[.agg (BdV c).toArray,.bool (xs.any (ofOut proto s port))]) w:=by
  have h:=hbk.look2 (e:=⟨proto,s,port⟩) he;rw [find_some_any,← hc,show (fun q=>sameEn (lentE q) ⟨proto,s,port⟩)=ofOut proto s port from funext fun c=>lent_out _ _ _ c] at h;exact h
 have HV:Hid (freeP xs proto s port=!xs.any (ofOut proto s port)):=free_any xs proto s port;have k13:=hk.cell (j:=13) rfl;have k5:=h5.cell (j:=0) rfl;have k6:=h6.cell (j:=0) rfl;generalize freeP xs proto s port=ans at *;generalize xs.any (ofOut proto s port)=an at *;clear hc hk h5 h6 hbk he;have HZ:Hid (Below w.heap.size w (w.alloc (.cells (BdV c).toArray 48))):=(Below.refl _ _).alloc (Nat.le_refl _) _;go_enter Tryz.func182,Tryz.ntmps182
 go_wp2_with (at_lookup; refine wpList_look_val rfl _ _ _ _ rfl rfl rfl LK ?_)
 go_ret;exact ⟨ret_bool HV.out.symm,HZ.out⟩
theorem freePort_any (pa:Option Addr) (pc:Nat) (p:Pl) (ba bo:Option Addr) (ca cb:Nat) (x:Bb) (m1 m2:Nat) (xs:List Bd) (proto:Int) (s:ByteArray) (wish:Int) (w:World) (hpo:poolOk p=true) (hs:s.size≤1048576) (hpr:In64t proto) (hw0:0≤wish) (hw1:wish≤65535) (hbk:BookAt w m1 m2 xs xs) :
  Cb 171 #[bkC pa pc p ba bo ca cb x m1 m2,iV proto,.string s,iV wish] w (.tuple #[iV ((lendN p xs proto s wish).getD 0),.bool (lendN p xs proto s wish).isSome]):=by
 have hpb:1≤p.low∧p.low≤p.high∧p.high≤65535:=by
  unfold poolOk at hpo; simp only [Bool.and_eq_true,decide_eq_true_iff] at hpo; omega
 obtain ⟨hlo,hlh,hhi⟩:=hpb;clear hpo;have HZ:Hid (Below w.heap.size w ((aW (aW w (KkV pa pc p ba ca bo cb x m1 m2) 139) [iV proto] 2).alloc (.cells #[.string s] 9))):=(((Below.refl _ _).alloc (Nat.le_refl _) _).alloc (by simp) _).alloc (by simp; omega) _;have HK:Hid (HoldsL ((aW (aW w (KkV pa pc p ba ca bo cb x m1 m2) 139) [iV proto] 2).alloc (.cells #[.string s] 9)) w.heap.size (KkV pa pc p ba ca bo cb x m1 m2)):=((HoldsL.new w (KkV pa pc p ba ca bo cb x m1 m2) 139).alloc _).alloc _;have H5:Hid (HoldsL ((aW (aW w (KkV pa pc p ba ca bo cb x m1 m2) 139) [iV proto] 2).alloc (.cells #[.string s] 9)) (w.heap.size+1) [iV proto]):=by
  have h:=(HoldsL.new (w.alloc (.cells (KkV pa pc p ba ca bo cb x m1 m2).toArray 139)) [iV proto] 2).alloc (.cells #[.string s] 9);rw [World.size_alloc] at h; exact h
 have H6:Hid (HoldsL ((aW (aW w (KkV pa pc p ba ca bo cb x m1 m2) 139) [iV proto] 2).alloc (.cells #[.string s] 9)) (w.heap.size+1+1) [.string s]):=by
  have h:=HoldsL.new ((aW w (KkV pa pc p ba ca bo cb x m1 m2) 139).alloc (.cells #[iV proto] 2)) [.string s] 9;rw [World.size_alloc,World.size_alloc] at h; exact h
 have HBK:Hid (BookAt w m1 m2 xs xs):=hbk;have HFR:Hid (∀ W,Below w.heap.size w W→HoldsL W w.heap.size (KkV pa pc p ba ca bo cb x m1 m2)→HoldsL W (w.heap.size+1) [iV proto]→HoldsL W (w.heap.size+1+1) [.string s]→∀ n,0≤n→n≤65535→Cb 182 #[iV n,.pointer (some ⟨w.heap.size,0,none⟩),.pointer (some ⟨w.heap.size+1,0,none⟩),.pointer (some ⟨w.heap.size+1+1,0,none⟩)] W (.bool (freeP xs proto s n))):=fun W hW h1 h2 h3 n hn0 hn1=>free1_any pa pc p ba bo ca cb x m1 m2 xs proto s n _ _ _ W ⟨hs,hpr,⟨by show _≤n; omega,by show n≤_; omega⟩⟩ h1 h2 h3 (hbk.kept hW)
 have HLD:Hid (∀ W,Cb 165 #[.agg (KkV pa pc p ba ca bo cb x m1 m2).toArray,iV wish] W (.bool (isIn wish p.low p.high))):=fun W=>lends_any pa pc p ba bo ca cb x m1 m2 wish W
 have HL2:Hid (∀ W,Below w.heap.size w W→HoldsL W w.heap.size (KkV pa pc p ba ca bo cb x m1 m2)→HoldsL W (w.heap.size+1) [iV proto]→HoldsL W (w.heap.size+1+1) [.string s]→Cb 183 #[iV (p.low+(p.low+wish) % 2),iV p.high,iV 2,.func (.func 182) #[] #[.pointer (some ⟨w.heap.size,0,none⟩),.pointer (some ⟨w.heap.size+1,0,none⟩),.pointer (some ⟨w.heap.size+1+1,0,none⟩)]] W (.tuple #[iV ((leastN (fun m=>decide (m % 2=wish % 2)&&freeP xs proto s m) p.low (p.high-p.low+1).toNat).getD 0),.bool (leastN (fun m=>decide (m % 2=wish % 2)&&freeP xs proto s m) p.low (p.high-p.low+1).toNat).isSome])):=fun W hW h1 h2 h3=>by
  rw [leastN_first (by omega) hw0 hlh];exact least_any (freeP xs proto s) (fun n=>leastN (fun m=>decide (m % 2=wish % 2)&&freeP xs proto s m) n (p.high-n+1).toNat) (fun n=>n % 2=wish % 2) 2 (p.low+(p.low+wish) % 2) p.high _ (fun args W=>by kernel_rfl) _ W (by omega) (by omega) hhi (by omega) (by omega) (by show _ % 2=_; omega) (fun n hn=>by show _ % 2=_; have:n % 2=wish % 2:=hn; omega) (fun n hn hle=>leastN_par hle hn) (fun n hn hgt=>leastN_end hgt) (fun W' hW' n hn0 hn1=>HFR.out W' (hW.trans (hW'.mono hW.size)) (h1.kept (by simp) hW') (h2.kept (by simp) hW') (h3.kept (by simp) hW') n hn0 hn1)
 have HL1:Hid (∀ W,Below w.heap.size w W→HoldsL W w.heap.size (KkV pa pc p ba ca bo cb x m1 m2)→HoldsL W (w.heap.size+1) [iV proto]→HoldsL W (w.heap.size+1+1) [.string s]→Cb 183 #[iV p.low,iV p.high,iV 1,.func (.func 182) #[] #[.pointer (some ⟨w.heap.size,0,none⟩),.pointer (some ⟨w.heap.size+1,0,none⟩),.pointer (some ⟨w.heap.size+1+1,0,none⟩)]] W (.tuple #[iV ((leastN (freeP xs proto s) p.low (p.high-p.low+1).toNat).getD 0),.bool (leastN (freeP xs proto s) p.low (p.high-p.low+1).toNat).isSome])):=fun W hW h1 h2 h3 =>
  least_any (freeP xs proto s) (fun n=>leastN (freeP xs proto s) n (p.high-n+1).toNat) (fun n=>True) 1 p.low p.high _ (fun args W=>by kernel_rfl) _ W (by omega) (by omega) hhi (by omega) (by omega) trivial (fun n hn=>trivial) (fun n hn hle=>leastN_step hle) (fun n hn hgt=>leastN_end hgt) (fun W' hW' n hn0 hn1=>HFR.out W' (hW.trans (hW'.mono hW.size)) (h1.kept (by simp) hW') (h2.kept (by simp) hW') (h3.kept (by simp) hW') n hn0 hn1)
 have HV:Hid _:=lendN_or p xs proto s wish;generalize lendN p xs proto s wish=ans at *;generalize leastN (fun m=>decide (m % 2=wish % 2)&&freeP xs proto s m) p.low (p.high-p.low+1).toNat=o2 at *;generalize leastN (freeP xs proto s) p.low (p.high-p.low+1).toNat=o1 at *;generalize isIn wish p.low p.high=il at *;have HFW:Hid _:=fun W a1 a2 a3 a4=>HFR.out W a1 a2 a3 a4 wish hw0 hw1
 generalize freeP xs proto s wish=fw at *;clear hbk HFR;have hun:undef=Value.tuple #[]:=rfl;unfold bkC;go_enter Tryz.func171,Tryz.ntmps171
 go_upto_region 1 with fail
 generalize ((aW (aW w (KkV pa pc p ba ca bo cb x m1 m2) 139) [iV proto] 2).alloc (.cells #[.string s] 9))=W at *;obtain ⟨k0,k1,k2,k3,k4,k5,k6,k7,k8,k9,k10,k11,k12,k13⟩:=HK.out.c14;go_wp2_with fail
 refine (HLD.out _).mono ?_;rintro e w1 ⟨rfl,q1⟩;have HZ1:Hid _:=HZ.out.trans (q1.mono HZ.out.size);have HK1:Hid _:=HK.out.kept (by simp) q1;have H51:Hid _:=H5.out.kept (by simp) q1;have H61:Hid _:=H6.out.kept (by simp) q1;clear q1 HZ HK H5 H6 HLD k0 k1 k2 k3 k4 k5 k6 k7 k8 k9 k10 k11 k12 k13
 cases il with
 | false =>
  obtain ⟨-,k1,k2⟩:=HK1.out.c3;have HV2:Hid (ans=o2.or o1):=by unfold Hid; rw [HV.out]; simp
  clear HV;go_wp2_with fail
  refine (HL2.out _ HZ1.out HK1.out H51.out H61.out).mono ?_;rintro e w3 ⟨rfl,q3⟩;have HZ3:Hid _:=HZ1.out.trans (q3.mono HZ1.out.size);have HK3:Hid _:=HK1.out.kept (by simp) q3;have H53:Hid _:=H51.out.kept (by simp) q3;have H63:Hid _:=H61.out.kept (by simp) q3;clear q3 k1 k2 HZ1 HK1 H51 H61 HL2
  cases o2 with
  | some n =>
   have HX:Hid (ans=some n):=HV2.out;go_wp2_with fail
   go_ret2
   exact ⟨by rw [HX.out]; rfl,HZ3.out⟩
  | none =>
   have HX:Hid (ans=o1):=HV2.out;obtain ⟨-,k1,k2⟩:=HK3.out.c3;go_wp2_with fail
   refine (HL1.out _ HZ3.out HK3.out H53.out H63.out).mono ?_;rintro e w4 ⟨rfl,q4⟩;have HZ4:Hid _:=HZ3.out.trans (q4.mono HZ3.out.size);clear q4 k1 k2;go_wp2_with fail
   go_ret2
   exact ⟨by rw [HX.out]; rfl,HZ4.out⟩
 | true =>
  go_wp2_with fail
  refine (HFW.out _ HZ1.out HK1.out H51.out H61.out).mono ?_;rintro e w2 ⟨rfl,q2⟩;have HZ2:Hid _:=HZ1.out.trans (q2.mono HZ1.out.size);have HK2:Hid _:=HK1.out.kept (by simp) q2;have H52:Hid _:=H51.out.kept (by simp) q2;have H62:Hid _:=H61.out.kept (by simp) q2;clear q2 HZ1 HK1 H51 H61 HFW
  cases fw with
  | true =>
   have HX:Hid (ans=some wish):=by unfold Hid; rw [HV.out]; rfl
   go_wp2_with fail
   go_ret2
   exact ⟨by rw [HX.out]; rfl,HZ2.out⟩
  | false =>
   obtain ⟨-,k1,k2⟩:=HK2.out.c3;have HV2:Hid (ans=o2.or o1):=by unfold Hid; rw [HV.out]; simp
   clear HV;go_wp2_with fail
   refine (HL2.out _ HZ2.out HK2.out H52.out H62.out).mono ?_;rintro e w3 ⟨rfl,q3⟩;have HZ3:Hid _:=HZ2.out.trans (q3.mono HZ2.out.size);have HK3:Hid _:=HK2.out.kept (by simp) q3;have H53:Hid _:=H52.out.kept (by simp) q3;have H63:Hid _:=H62.out.kept (by simp) q3;clear q3 k1 k2 HZ2 HK2 H52 H62 HL2
   cases o2 with
   | some n =>
    have HX:Hid (ans=some n):=HV2.out;go_wp2_with fail
    go_ret2
    exact ⟨by rw [HX.out]; rfl,HZ3.out⟩
   | none =>
    have HX:Hid (ans=o1):=HV2.out;obtain ⟨-,k1,k2⟩:=HK3.out.c3;go_wp2_with fail
    refine (HL1.out _ HZ3.out HK3.out H53.out H63.out).mono ?_;rintro e w4 ⟨rfl,q4⟩;have HZ4:Hid _:=HZ3.out.trans (q4.mono HZ3.out.size);clear q4 k1 k2;go_wp2_with fail
    go_ret2
    exact ⟨by rw [HX.out]; rfl,HZ4.out⟩
def bindForV (p:Pl) (xs:List Bd) (h:En):Bd × Bool :=
 if (xs.find? (ofIn h.proto h.addr h.port)).isSome=true then ((xs.find? (ofIn h.proto h.addr h.port)).getD bdZ,true)
 else (⟨h.proto,h.addr,h.port,outIn xs (outD p h.addr) h.addr,(lendN p xs h.proto (outIn xs (outD p h.addr) h.addr) h.port).getD 0⟩,(lendN p xs h.proto (outIn xs (outD p h.addr) h.addr) h.port).isSome)
theorem bindFor_lend (p:Pl) (xs:List Bd) (h:En):lendV p xs h.proto h.addr h.port=if (bindForV p xs h).2=true then ((bindForV p xs h).1,0) else (bdZ,9):=by
 unfold lendV bindForV
 cases xs.find? (ofIn h.proto h.addr h.port) with
 | some c=>rfl
 | none =>
  cases lendN p xs h.proto (outIn xs (outD p h.addr) h.addr) h.port<;>rfl
theorem outIn_some {xs:List Bd} {s d:ByteArray} (h:(xs.find? (ofHost s)).isSome=true):outIn xs d s=outIn xs ⟨#[]⟩ s:=by
 unfold outIn; cases hf:xs.find? (ofHost s) with
 | some c=>rfl
 | none=>rw [hf] at h; simp at h
theorem outIn_none {xs:List Bd} {s d:ByteArray} (h:(xs.find? (ofHost s)).isSome=false):outIn xs d s=d:=by
 unfold outIn; cases hf:xs.find? (ofHost s) with
 | some c=>rw [hf] at h; simp at h
 | none=>rfl
theorem outIn_sz {p:Pl} {xs:List Bd} {s:ByteArray} (hps:∀ s∈p.addrs,s.size≤1048576) (hgb:∀ q∈xs,BdGood q):(outIn xs (outD p s) s).size≤1048576:=by
 unfold outIn
 cases hf:xs.find? (ofHost s) with
 | some c=>exact (hgb c (List.mem_of_find?_eq_some hf)).2.1
 | none =>
  show (outD p s).size≤_;unfold outD
  cases ha:p.addrs[(sumV s).toNat % p.addrs.length]? with
  | none=>exact Nat.zero_le _
  | some a=>exact hps a (List.mem_of_getElem? ha)
theorem bindFor_any (pa:Option Addr) (pc:Nat) (p:Pl) (ba bo:Option Addr) (ca cb:Nat) (x:Bb) (m1 m2:Nat) (h:En) (w:World) (hpo:poolOk p=true) (he:EnIn h) (hw0:0≤h.port) (hw1:h.port≤65535) (hps:∀ s∈p.addrs,s.size≤1048576) (hbl1:x.binds.length≤1048576) (hgb:∀ q∈x.binds,BdGood q) (hbk:BookAt w m1 m2 x.binds x.binds) (hp:SlIs strL1 1 w pa p.addrs) (hx:BbIs w ba bo x) :
  Cb 141 #[bkC pa pc p ba bo ca cb x m1 m2,enC h] w (.tuple #[bdC (bindForV p x.binds h).1,.bool (bindForV p x.binds h).2]):=by
 have hpb:1≤p.addrs.length∧p.addrs.length≤8:=by
  unfold poolOk at hpo; simp only [Bool.and_eq_true,decide_eq_true_iff] at hpo; omega
 obtain ⟨hp1,hp8⟩:=hpb;have HPO:Hid (poolOk p=true):=hpo;have HZ:Hid (Below w.heap.size w ((aW (aW w (KkV pa pc p ba ca bo cb x m1 m2) 139) (EnV h.proto h.addr h.port) 86).alloc (.cells (BdR 0 ⟨#[]⟩ 0 ⟨#[]⟩ 0).toArray 48))):=(((Below.refl _ _).alloc (Nat.le_refl _) _).alloc (by simp) _).alloc (by simp; omega) _;have HK:Hid (HoldsL ((aW (aW w (KkV pa pc p ba ca bo cb x m1 m2) 139) (EnV h.proto h.addr h.port) 86).alloc (.cells (BdR 0 ⟨#[]⟩ 0 ⟨#[]⟩ 0).toArray 48)) w.heap.size (KkV pa pc p ba ca bo cb x m1 m2)):=((HoldsL.new w (KkV pa pc p ba ca bo cb x m1 m2) 139).alloc _).alloc _;have HH:Hid (HoldsL ((aW (aW w (KkV pa pc p ba ca bo cb x m1 m2) 139) (EnV h.proto h.addr h.port) 86).alloc (.cells (BdR 0 ⟨#[]⟩ 0 ⟨#[]⟩ 0).toArray 48)) (w.heap.size+1) (EnV h.proto h.addr h.port)):=by
  have h:=(HoldsL.new (w.alloc (.cells (KkV pa pc p ba ca bo cb x m1 m2).toArray 139)) (EnV h.proto h.addr h.port) 86).alloc (.cells (BdR 0 ⟨#[]⟩ 0 ⟨#[]⟩ 0).toArray 48);rw [World.size_alloc] at h; exact h
 have HR:Hid (HoldsL ((aW (aW w (KkV pa pc p ba ca bo cb x m1 m2) 139) (EnV h.proto h.addr h.port) 86).alloc (.cells (BdR 0 ⟨#[]⟩ 0 ⟨#[]⟩ 0).toArray 48)) (w.heap.size+1+1) (BdR 0 ⟨#[]⟩ 0 ⟨#[]⟩ 0)):=by
  have h:=HoldsL.new ((aW w (KkV pa pc p ba ca bo cb x m1 m2) 139).alloc (.cells (EnV h.proto h.addr h.port).toArray 86)) (BdR 0 ⟨#[]⟩ 0 ⟨#[]⟩ 0) 48;rw [World.size_alloc,World.size_alloc] at h; exact h
 have hRw:w.heap.size≤w.heap.size+1+1:=by omega
 obtain ⟨c,hc⟩ : ∃ c,c=(x.binds.find? (ofIn h.proto h.addr h.port)).getD bdZ:=⟨_,rfl⟩;have HLK:Hid (∀ W,Below w.heap.size w W→(Instr.lookup 137 (.map (some m1)) (.agg (EnV h.proto h.addr h.port).toArray) true).run Tryz.prog W=.ok (.tuple #[.agg (BdV c).toArray,.bool (x.binds.find? (ofIn h.proto h.addr h.port)).isSome]) W):=fun W hW=>by
  have hl:=(hbk.kept hW).look1 (e:=h) he;rw [show (fun q=>sameEn (hostE q) h)=ofIn h.proto h.addr h.port from funext fun c=>host_in _ _ _ c,← hc] at hl;exact hl
 have HO:Hid (∀ W,Below w.heap.size w W→Cb 164 #[.slice ba x.binds.length ca,.string h.addr] W (.tuple #[.string (outIn x.binds ⟨#[]⟩ h.addr),.bool (x.binds.find? (ofHost h.addr)).isSome])):=fun W hW=>outOf_any h.addr x.binds ba ca W hbl1 (hx.bd.below hW)
 have HF:Hid (∀ W s,Below w.heap.size w W→s.size≤1048576→Cb 171 #[.agg (KkV pa pc p ba ca bo cb x m1 m2).toArray,iV h.proto,.string s,iV h.port] W (.tuple #[iV ((lendN p x.binds h.proto s h.port).getD 0),.bool (lendN p x.binds h.proto s h.port).isSome])):=fun W s hW hs=>freePort_any pa pc p ba bo ca cb x m1 m2 x.binds h.proto s h.port W hpo hs he.2.1 hw0 hw1 (hbk.kept hW)
 have HSZ:Hid ((outIn x.binds (outD p h.addr) h.addr).size≤1048576):=outIn_sz hps hgb;have HV:Hid (bindForV p x.binds h=if (x.binds.find? (ofIn h.proto h.addr h.port)).isSome=true then (c,true) else (⟨h.proto,h.addr,h.port,outIn x.binds (outD p h.addr) h.addr,(lendN p x.binds h.proto (outIn x.binds (outD p h.addr) h.addr) h.port).getD 0⟩,(lendN p x.binds h.proto (outIn x.binds (outD p h.addr) h.addr) h.port).isSome)):=by rw [hc]; rfl
 have hsr:=sumV_range h.addr;have HSU:Hid (∀ W,Cb 170 #[.string h.addr] W (iV (sumV h.addr))):=fun W=>(sumOfS_any h.addr W (by have:=he.1; omega)).mono fun e w' hh=>⟨hh.1,by rw [hh.2]; exact Below.refl _ _⟩
 obtain ⟨ix,hix⟩ : ∃ i,i=(sumV h.addr).toNat % p.addrs.length:=⟨_,rfl⟩;have hixl:ix < p.addrs.length:=by rw [hix]; exact Nat.mod_lt _ (by omega)
 have hrem:(sumV h.addr) % (p.addrs.length:Int)=(ix:Int):=by
  obtain ⟨n,hn⟩:=Int.eq_ofNat_of_zero_le hsr.1;rw [hix,hn,Int.toNat_natCast]; rfl
 obtain ⟨bp,op,rfl,hbp,hatp⟩:=hp.at hixl;have HPI:Hid (∀ W,Below w.heap.size w W→W.cell? ⟨bp,op+ix,none⟩=some (.string (outD p h.addr))):=fun W hW=>by
  have hh:=(hatp.below hbp hW) ix hixl 0 _ rfl;have e:outD p h.addr=p.addrs[ix]:=by unfold outD; rw [← hix,List.getElem?_eq_getElem hixl]; rfl
  rw [e]; simpa using hh
 have hixI:(ix:Int) < (p.addrs.length:Int):=by omega
 have hnil:¬ p.addrs=[]:=fun e=>by rw [e] at hp1; simp at hp1
 have hrem2:(sumV h.addr).tmod (p.addrs.length:Int)=(ix:Int):=by rw [Int.tmod_eq_emod_of_nonneg hsr.1]; exact hrem
 have HOS:Hid ((x.binds.find? (ofHost h.addr)).isSome=true→outIn x.binds (outD p h.addr) h.addr=outIn x.binds ⟨#[]⟩ h.addr):=outIn_some;have HON:Hid ((x.binds.find? (ofHost h.addr)).isSome=false→outIn x.binds (outD p h.addr) h.addr=outD p h.addr):=outIn_none;generalize bindForV p x.binds h=ans at *;generalize (x.binds.find? (ofIn h.proto h.addr h.port)).isSome=bd at *;generalize outIn x.binds (outD p h.addr) h.addr=ot at *;generalize outIn x.binds ⟨#[]⟩ h.addr=oe at *;generalize outD p h.addr=od at *;generalize (x.binds.find? (ofHost h.addr)).isSome=mt at *;generalize sumV h.addr=sv at *;clear hc hbk hp hx hgb hps he hpo hatp hbp hix;have hun:undef=Value.tuple #[]:=rfl;unfold bkC enC;go_enter Tryz.func141,Tryz.ntmps141
 go_upto_region 1 with fail
 generalize ((aW (aW w (KkV (some ⟨bp,op,none⟩) pc p ba ca bo cb x m1 m2) 139) (EnV h.proto h.addr h.port) 86).alloc (.cells (BdR 0 ⟨#[]⟩ 0 ⟨#[]⟩ 0).toArray 48))=W at *;obtain ⟨k0,k1,k2,k3,k4,k5,k6,k7,k8,k9,k10,k11,k12,k13⟩:=HK.out.c14;obtain ⟨c0,c1,c2⟩:=HH.out.c3;have LK:=HLK.out W HZ.out;go_upto_region 2 with (at_lookup; refine wpList_look_val rfl _ _ _ _ rfl rfl rfl LK ?_)
 have bn:Below W.heap.size W (W.alloc (.cells (BdV c).toArray 48)):=(Below.refl _ _).alloc (Nat.le_refl _) _;have H6:Hid (HoldsL (W.alloc (.cells (BdV c).toArray 48)) W.heap.size (BdV c)):=HoldsL.new W (BdV c) 48;have HZ1:Hid _:=HZ.out.trans (bn.mono HZ.out.size);have HK1:Hid _:=HK.out.kept (by simp) bn;have HH1:Hid _:=HH.out.kept (by simp) bn;have HR1:Hid _:=HR.out.kept (by simp) bn;clear HZ HK HH HR;generalize (W.alloc (.cells (BdV c).toArray 48))=W1 at *;clear bn LK HLK k0 k1 k2 k3 k4 k5 k6 k7 k8 k9 k10 k11 k12 k13 c0 c1 c2
 cases bd with
 | true =>
  have HX:Hid (ans=(c,true)):=by unfold Hid; rw [HV.out,if_pos rfl]
  obtain ⟨y0,y1,y2,y3,y4⟩:=H6.out.c5;obtain ⟨z0,z1,z2,z3,z4⟩:=HR1.out.c5;obtain ⟨zf0,zf1,zf2,zf3,zf4⟩:=HR1.out.f5;go_wp2_with fail
  refine bodyPost_ret (v:=.tuple #[.agg (BdV c).toArray,.bool true]) (by simp [results,Tryz.results141,go_sem,z0,z1,z2,z3,z4]) rfl (And.intro (by rw [HX.out]; rfl) ?_);exact (((((HZ1.out.setCell (p:=⟨w.heap.size+1+1,0,none⟩) hRw _).setCell (p:=⟨w.heap.size+1+1,1,none⟩) hRw _).setCell (p:=⟨w.heap.size+1+1,2,none⟩) hRw _).setCell (p:=⟨w.heap.size+1+1,3,none⟩) hRw _).setCell (p:=⟨w.heap.size+1+1,4,none⟩) hRw _)
 | false =>
  have HV2:Hid (ans=(⟨h.proto,h.addr,h.port,ot,(lendN p x.binds h.proto ot h.port).getD 0⟩,(lendN p x.binds h.proto ot h.port).isSome)):=by unfold Hid; rw [HV.out,if_neg (by simp)]
  clear HV H6;obtain ⟨k0,k1,k2,k3,k4,k5,k6,k7,k8,k9,k10,k11,k12,k13⟩:=HK1.out.c14;obtain ⟨c0,c1,c2⟩:=HH1.out.c3;go_wp2_with fail
  refine (HO.out _ HZ1.out).mono ?_;rintro e W2 ⟨rfl,q2⟩;have HZ2:Hid _:=HZ1.out.trans (q2.mono HZ1.out.size);have HK2:Hid _:=HK1.out.kept (by simp) q2;have HH2:Hid _:=HH1.out.kept (by simp) q2;have HR2:Hid _:=HR1.out.kept (by simp) q2;clear HZ1 HK1 HH1 HR1;clear q2 HO k0 k1 k2 k3 k4 k5 k6 k7 k8 k9 k10 k11 k12 k13 c0 c1 c2
  cases mt with
  | true =>
   obtain rfl:ot=oe:=HOS.out rfl;obtain ⟨k0,k1,k2,k3,k4,k5,k6,k7,k8,k9,k10,k11,k12,k13⟩:=HK2.out.c14;obtain ⟨c0,c1,c2⟩:=HH2.out.c3;go_wp2_with fail
   refine (HF.out _ ot HZ2.out HSZ.out).mono ?_;rintro e W9 ⟨rfl,q9⟩;have HZ9:Hid _:=HZ2.out.trans (q9.mono HZ2.out.size);have HK9:Hid _:=HK2.out.kept (by simp) q9;have HH9:Hid _:=HH2.out.kept (by simp) q9;have HR9:Hid _:=HR2.out.kept (by simp) q9;clear HZ2 HK2 HH2 HR2;clear q9 HF k0 k1 k2 k3 k4 k5 k6 k7 k8 k9 k10 k11 k12 k13 c0 c1 c2;generalize lendN p x.binds h.proto ot h.port=ln at *;obtain ⟨c0,c1,c2⟩:=HH9.out.c3;obtain ⟨z0,z1,z2,z3,z4⟩:=HR9.out.c5;obtain ⟨zf0,zf1,zf2,zf3,zf4⟩:=HR9.out.f5;go_wp2_with fail
   refine bodyPost_ret (v:=.tuple #[.agg (BdR h.proto h.addr h.port ot (ln.getD 0)).toArray,.bool ln.isSome]) (by simp [results,Tryz.results141,go_sem,z0,z1,z2,z3,z4]) rfl (And.intro (by rw [HV2.out]; rfl) ?_);exact (((((HZ9.out.setCell (p:=⟨w.heap.size+1+1,0,none⟩) hRw _).setCell (p:=⟨w.heap.size+1+1,1,none⟩) hRw _).setCell (p:=⟨w.heap.size+1+1,2,none⟩) hRw _).setCell (p:=⟨w.heap.size+1+1,3,none⟩) hRw _).setCell (p:=⟨w.heap.size+1+1,4,none⟩) hRw _)
  | false =>
   obtain rfl:ot=od:=HON.out rfl;go_upto_region 6 with fail
   go_cut [8] (fun v wx=>v=.string ot∧Below W2.heap.size W2 wx)
   case first =>
    rename_i J K2 hJ hK2;clear hun;have HCP:Hid (∀ wy,Below W2.drew.heap.size W2.drew wy→HoldsL wy w.heap.size (KkV (some ⟨bp,op,none⟩) pc p ba ca bo cb x m1 m2)∧HoldsL wy (w.heap.size+1) (EnV h.proto h.addr h.port)∧Below w.heap.size w wy):=fun wy hy=>⟨HK2.out.drew.kept (by simp) hy,HH2.out.drew.kept (by simp) hy,HZ2.out.drew.trans (hy.mono HZ2.out.size)⟩
    refine wp_region_growH [32,33,34,35,36,37,38,39,40,41,42,43,44,8] (by kernel_rfl) (by kernel_rfl) ?_;iterate 2 (apply GCh.u rfl;(·intro K' a wy ho hd hb hK;simp [rAt,IsV,slot,Region.binds] at ho hd;go_simp;(try go_bits);exact hK _ _ rfl bQ);dsimp only [nA,cA])
    apply GCh.v2
    ·rfl
    ·intro K' a wy ho hd hb hK kz;have q1:=hd ⟨1,.data⟩ (by simp) rfl;simp [rAt,IsV,slot] at q1;clear hd ho;obtain ⟨hk,hh,hbw⟩:=HCP.out wy hb;obtain ⟨k0,k1,k2,k3,k4,k5,k6,k7,k8,k9,k10,k11,k12,k13⟩:=hk.c14;obtain ⟨c0,c1,c2⟩:=hh.c3;have hpi:=HPI.out wy hbw;have hpi1:wy.cell? ⟨bp,op+ix*1,none⟩=some (.string ot):=by simpa using hpi
     go_simp;try go_bits
     exact kz _ rfl
    (apply GCh.u rfl;(·intro K' a wy ho hd hb hK;simp [rAt,IsV,slot,Region.binds] at ho hd;go_simp;(try go_bits);exact hK _ _ rfl bQ);dsimp only [nA,cA])
    apply GCh.v4
    ·rfl
    ·intro K' a wy ho hd hb hK kz;have q3:=hd ⟨3,.data⟩ (by simp) rfl;simp [rAt,IsV,slot] at q3;clear hd ho;obtain ⟨hk,hh,hbw⟩:=HCP.out wy hb;obtain ⟨k0,k1,k2,k3,k4,k5,k6,k7,k8,k9,k10,k11,k12,k13⟩:=hk.c14;obtain ⟨c0,c1,c2⟩:=hh.c3;have hpi:=HPI.out wy hbw;have hpi1:wy.cell? ⟨bp,op+ix*1,none⟩=some (.string ot):=by simpa using hpi
     go_simp;try go_bits
     exact kz _ rfl
    iterate 3 (apply GCh.u rfl;(·intro K' a wy ho hd hb hK;simp [rAt,IsV,slot,Region.binds] at ho hd;go_simp;first|((try go_bits);exact hK _ _ rfl bQ)|(refine (HSU.out wy).mono ?_;rintro e wz ⟨rfl,hz⟩;exact hK _ _ rfl hz));dsimp only [nA,cA])
    apply GCh.v8
    ·rfl
    ·intro K' a wy ho hd hb hK kz;have q7:=hd ⟨7,.data⟩ (by simp) rfl;simp [rAt,IsV,slot] at q7;clear hd ho;obtain ⟨hk,hh,hbw⟩:=HCP.out wy hb;obtain ⟨k0,k1,k2,k3,k4,k5,k6,k7,k8,k9,k10,k11,k12,k13⟩:=hk.c14;obtain ⟨c0,c1,c2⟩:=hh.c3;have hpi:=HPI.out wy hbw;have hpi1:wy.cell? ⟨bp,op+ix*1,none⟩=some (.string ot):=by simpa using hpi
     go_simp;try go_bits
     exact kz _ rfl
    iterate 3 (apply GCh.u rfl;(·intro K' a wy ho hd hb hK;simp [rAt,IsV,slot,Region.binds] at ho hd;go_simp;(try go_bits);exact hK _ _ rfl bQ);dsimp only [nA,cA])
    apply GCh.v12
    ·rfl
    ·intro K' a wy ho hd hb hK kz;have q11:=hd ⟨11,.data⟩ (by simp) rfl;simp [rAt,IsV,slot] at q11;clear hd ho;obtain ⟨hk,hh,hbw⟩:=HCP.out wy hb;obtain ⟨k0,k1,k2,k3,k4,k5,k6,k7,k8,k9,k10,k11,k12,k13⟩:=hk.c14;obtain ⟨c0,c1,c2⟩:=hh.c3;have hpi:=HPI.out wy hbw;have hpi1:wy.cell? ⟨bp,op+ix*1,none⟩=some (.string ot):=by simpa using hpi
     go_simp;try go_bits
     exact kz _ rfl
    (apply GCh.u rfl;(·intro K' a wy ho hd hb hK;simp [rAt,IsV,slot,Region.binds] at ho hd;go_simp;(try go_bits);exact hK _ _ rfl bQ);dsimp only [nA,cA])
    intro X wz hR hz;simp only [List.nil_append,List.cons_append,RAll,IsV] at hR;simp only [putsFrom,hR];clear hR;go_simp;refine hK2 _ _ (hJ _ _ ?_);(repeat apply Exists.intro)
    refine ⟨⟨rfl,(Below.refl _ _).drew.trans hz⟩,rfl⟩
   case rest =>
   obtain ⟨rfl,qc⟩:=hcut;generalize wc=W3 at *;have HZ3:Hid _:=HZ2.out.trans (qc.mono HZ2.out.size);have HK3:Hid _:=HK2.out.kept (by simp) qc;have HH3:Hid _:=HH2.out.kept (by simp) qc;have HR3:Hid _:=HR2.out.kept (by simp) qc;clear HZ2 HK2 HH2 HR2;clear qc;obtain ⟨k0,k1,k2,k3,k4,k5,k6,k7,k8,k9,k10,k11,k12,k13⟩:=HK3.out.c14;obtain ⟨c0,c1,c2⟩:=HH3.out.c3;go_wp2_with fail
   refine (HF.out _ ot HZ3.out HSZ.out).mono ?_;rintro e W9 ⟨rfl,q9⟩;have HZ9:Hid _:=HZ3.out.trans (q9.mono HZ3.out.size);have HK9:Hid _:=HK3.out.kept (by simp) q9;have HH9:Hid _:=HH3.out.kept (by simp) q9;have HR9:Hid _:=HR3.out.kept (by simp) q9;clear HZ3 HK3 HH3 HR3;clear q9 HF k0 k1 k2 k3 k4 k5 k6 k7 k8 k9 k10 k11 k12 k13 c0 c1 c2;generalize lendN p x.binds h.proto ot h.port=ln at *;obtain ⟨c0,c1,c2⟩:=HH9.out.c3;obtain ⟨z0,z1,z2,z3,z4⟩:=HR9.out.c5;obtain ⟨zf0,zf1,zf2,zf3,zf4⟩:=HR9.out.f5;go_wp2_with fail
   refine bodyPost_ret (v:=.tuple #[.agg (BdR h.proto h.addr h.port ot (ln.getD 0)).toArray,.bool ln.isSome]) (by simp [results,Tryz.results141,go_sem,z0,z1,z2,z3,z4]) rfl (And.intro (by rw [HV2.out]; rfl) ?_);exact (((((HZ9.out.setCell (p:=⟨w.heap.size+1+1,0,none⟩) hRw _).setCell (p:=⟨w.heap.size+1+1,1,none⟩) hRw _).setCell (p:=⟨w.heap.size+1+1,2,none⟩) hRw _).setCell (p:=⟨w.heap.size+1+1,3,none⟩) hRw _).setCell (p:=⟨w.heap.size+1+1,4,none⟩) hRw _)
end Go.Proofs.YtdkepkaflielhaaGreatDoor
