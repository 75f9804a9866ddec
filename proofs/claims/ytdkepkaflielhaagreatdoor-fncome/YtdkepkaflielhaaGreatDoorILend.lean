import Derived.Test.YtdkepkaflielhaaGreatDoorSz
import Derived.Test.YtdkepkaflielhaaGreatDoorAb
import Derived.Test.YtdkepkaflielhaaGreatDoorIFits
import Derived.Test.YtdkepkaflielhaaGreatDoorSums
set_option linter.unusedVariables false
set_option linter.unusedSimpArgs false
set_option maxRecDepth 100000
set_option maxHeartbeats 8000000
namespace Go.Proofs.YtdkepkaflielhaaGreatDoor
open Go.RowKit Go.PlainAid
theorem free_any (xs:List Bd) (proto:Int) (s:ByteArray) (n:Int):freeP xs proto s n=!xs.any (ofOut proto s n):=by
 unfold freeP;rw [← findI_any];by_cases h:findI (ofOut proto s n) xs < 0
 ·rw [decide_eq_true h,decide_eq_false (by omega)]; rfl
 ·rw [decide_eq_false h,decide_eq_true (by omega)]; rfl
theorem lendN_or (p:Pl) (xs:List Bd) (proto:Int) (s:ByteArray) (wish:Int):lendN p xs proto s wish=if (isIn wish p.low p.high&&freeP xs proto s wish)=true then some wish else (leastN (fun n=>decide (n % 2=wish % 2)&&freeP xs proto s n) p.low (p.high-p.low+1).toNat).or (leastN (freeP xs proto s) p.low (p.high-p.low+1).toNat):=by
 unfold lendN;split
 ·rfl
 ·cases leastN (fun n=>decide (n % 2=wish % 2)&&freeP xs proto s n) p.low (p.high-p.low+1).toNat<;>rfl
theorem least_any (f:Int→Bool) (L:Int→Option Int) (I:Int→Prop) (st lo hi:Int) (F:Nat) (hG:Enters F) (caps:Array Value) (w:World) (h0:0≤lo) (hlo:lo≤65540) (hhi:hi≤65535) (hst1:1≤st) (hst2:st≤2) (hIs:I lo) (hIn:∀ n,I n→I (n+st)) (hL:∀ n,I n→n≤hi→L n=if f n=true then some n else L (n+st)) (hE:∀ n,I n→hi < n→L n=none)
  (hC:∀ W,Below w.heap.size w W→∀ n,0≤n→n≤65535→Calls Tryz.prog F (#[iV n]++caps) W fun e w'=>e=.returned (.bool (f n))∧Below W.heap.size W w') :
  Cb 183 #[iV lo,iV hi,iV st,.func (.func F) #[] caps] w (.tuple #[iV ((L lo).getD 0),.bool (L lo).isSome]):=by
 have HC:Hid _:=hC;have HL:Hid _:=hL;have HE:Hid _:=hE;have HIN:Hid (∀ n,I n→I (n+st)):=hIn;obtain ⟨lv,hlv⟩ : ∃ y,y=L lo:=⟨_,rfl⟩;have HLV:Hid (lv=L lo):=hlv;rw [← hlv];clear hC hL hE hIn hlv;unfold Enters at hG;go_enter Tryz.func183,Tryz.ntmps183
 go_wp2_with fail
 go_loopw [10] (fun pv wr=>∃ n:Int,0≤n∧n≤65540∧pv=iV n∧Hid (I n)∧Hid (lv=L n)∧Below w.z w wr) (fun pv _=>(65541-intOf pv).toNat)
 case atStart=>exact ⟨lo,by omega,by omega,rfl,hIs,HLV.out,Below.refl _ _⟩
 case round =>
  obtain ⟨n,hn0,hn1,rfl,hin,hln,hb⟩:=hrel;have HB:Hid (Below w.z w wr):=hb;clear hb;by_cases hle:n≤hi
  ·have HC2:Hid _:=HC.out wr HB.out n hn0 (by omega);have HL2:Hid _:=HL.out n hin.out hle;obtain ⟨fb,hfb⟩ : ∃ y,y=f n:=⟨_,rfl⟩;rw [← hfb] at HC2 HL2;clear hfb;go_wp2_with fail
   refine Calls.mono HC2.out ?_;rintro e w1 ⟨rfl,q1⟩;have HB1:Hid _:=HB.out.trans (q1.mono HB.out.size);clear q1
   cases fb with
   | true =>
    have HX:Hid (lv=some n):=by unfold Hid; rw [hln.out,HL2.out,if_pos rfl]
    go_wp2_with fail
    go_ret2
    exact ⟨by rw [HX.out]; rfl,HB1.out⟩
   | false =>
    have HX:Hid (lv=L (n+st)):=by unfold Hid; rw [hln.out,HL2.out,if_neg (by simp)]
    have HI2:Hid (I (n+st)):=HIN.out n hin.out;go_wp2_with fail
    go_roundw
    case rel=>exact ⟨n+st,by omega,by omega,rfl,HI2,HX,HB1.out⟩
    case measure=>simp [intOf]; omega
  ·have HX:Hid (lv=none):=by unfold Hid; rw [hln.out]; exact HE.out n hin.out (by omega)
   have hgt:hi < n:=by omega
   go_wp2_with fail
   go_ret2
   exact ⟨by rw [HX.out]; rfl,HB.out⟩
theorem free1_any (pa:Option Addr) (pc:Nat) (p:Pl) (ba bo:Option Addr) (ca cb:Nat) (x:Bb) (m1 m2:Nat) (xs:List Bd) (proto:Int) (s:ByteArray) (port:Int) (B4 B5 B6:Nat) (w:World) (he:EnIn ⟨proto,s,port⟩) (hk:HoldsL w B4 (KkV pa pc p ba ca bo cb x m1 m2)) (h5:HoldsL w B5 [iV proto]) (h6:HoldsL w B6 [.string s]) (hbk:BookAt w m1 m2 xs xs) :
  Cb 182 #[iV port,.pointer (some ⟨B4,0,none⟩),.pointer (some ⟨B5,0,none⟩),.pointer (some ⟨B6,0,none⟩)] w (.bool (freeP xs proto s port)):=by
 obtain ⟨c,hc⟩ : ∃ c,c=(xs.find? fun q=>sameEn (lentE q) ⟨proto,s,port⟩).getD bdZ:=⟨_,rfl⟩;have LK:(Instr.lookup 137 (.map (some m2)) (.agg (EnV proto s port).toArray) true).run Tryz.prog w=.ok (.tuple #[.agg (BdV c).toArray,.bool (xs.any (ofOut proto s port))]) w:=by
  have h:=hbk.look2 (e:=⟨proto,s,port⟩) he;rw [find_some_any,← hc,show (fun q=>sameEn (lentE q) ⟨proto,s,port⟩)=ofOut proto s port from funext fun c=>lent_out _ _ _ c] at h;exact h
 have HV:Hid (freeP xs proto s port=!xs.any (ofOut proto s port)):=free_any xs proto s port;have k13:=hk.cell (j:=13) rfl;have k5:=h5.cell (j:=0) rfl;have k6:=h6.cell (j:=0) rfl;generalize freeP xs proto s port=ans at *;generalize xs.any (ofOut proto s port)=an at *;clear hc hk h5 h6 hbk he;have HZ:Hid (Below w.z w (w.alloc (.cells (BdV c).toArray 48))):=bR.alloc lR _;go_enter Tryz.func182,Tryz.ntmps182
 go_wp2_with (at_lookup; refine wpList_look_val rfl _ _ _ _ rfl rfl rfl LK ?_)
 go_ret;exact ⟨ret_bool HV.out.symm,HZ.out⟩
theorem freePort_any (pa:Option Addr) (pc:Nat) (p:Pl) (ba bo:Option Addr) (ca cb:Nat) (x:Bb) (m1 m2:Nat) (xs:List Bd) (proto:Int) (s:ByteArray) (wish:Int) (w:World) (hpo:poolOk p=true) (hs:s.size≤1048576) (hpr:In64t proto) (hw0:0≤wish) (hw1:wish≤65535) (hbk:BookAt w m1 m2 xs xs) :
  Cb 171 #[bkC pa pc p ba bo ca cb x m1 m2,iV proto,.string s,iV wish] w (.tuple #[iV ((lendN p xs proto s wish).getD 0),.bool (lendN p xs proto s wish).isSome]):=by
 have hpb:1≤p.low∧p.low≤p.high∧p.high≤65535:=by
  unfold poolOk at hpo; simp only [Bool.and_eq_true,decide_eq_true_iff] at hpo; omega
 obtain ⟨hlo,hlh,hhi⟩:=hpb;clear hpo;have HZ:Hid (Below w.z w ((aW (aW w (KkV pa pc p ba ca bo cb x m1 m2) 139) [iV proto] 2).alloc (.cells #[.string s] 9))):=((bR.alloc lR _).alloc (by simp) _).alloc (by simp; omega) _;have HK:Hid (HoldsL ((aW (aW w (KkV pa pc p ba ca bo cb x m1 m2) 139) [iV proto] 2).alloc (.cells #[.string s] 9)) w.z (KkV pa pc p ba ca bo cb x m1 m2)):=((HoldsL.new w (KkV pa pc p ba ca bo cb x m1 m2) 139).alloc _).alloc _;have H5:Hid (HoldsL ((aW (aW w (KkV pa pc p ba ca bo cb x m1 m2) 139) [iV proto] 2).alloc (.cells #[.string s] 9)) (w.z+1) [iV proto]):=by
  have h:=(HoldsL.new (w.alloc (.cells (KkV pa pc p ba ca bo cb x m1 m2).toArray 139)) [iV proto] 2).alloc (.cells #[.string s] 9);rw [World.size_alloc] at h; exact h
 have H6:Hid (HoldsL ((aW (aW w (KkV pa pc p ba ca bo cb x m1 m2) 139) [iV proto] 2).alloc (.cells #[.string s] 9)) (w.z+1+1) [.string s]):=by
  have h:=HoldsL.new ((aW w (KkV pa pc p ba ca bo cb x m1 m2) 139).alloc (.cells #[iV proto] 2)) [.string s] 9;rw [World.size_alloc,World.size_alloc] at h; exact h
 have HBK:Hid (BookAt w m1 m2 xs xs):=hbk;have HFR:Hid (∀ W,Below w.z w W→HoldsL W w.z (KkV pa pc p ba ca bo cb x m1 m2)→HoldsL W (w.z+1) [iV proto]→HoldsL W (w.z+1+1) [.string s]→∀ n,0≤n→n≤65535→Cb 182 #[iV n,.pointer (some ⟨w.z,0,none⟩),.pointer (some ⟨w.z+1,0,none⟩),.pointer (some ⟨w.z+1+1,0,none⟩)] W (.bool (freeP xs proto s n))):=fun W hW h1 h2 h3 n hn0 hn1=>free1_any pa pc p ba bo ca cb x m1 m2 xs proto s n _ _ _ W ⟨hs,hpr,⟨by show _≤n; omega,by show n≤_; omega⟩⟩ h1 h2 h3 (hbk.kept hW)
 have HLD:Hid (∀ W,Cb 165 #[.agg (KkV pa pc p ba ca bo cb x m1 m2).toArray,iV wish] W (.bool (isIn wish p.low p.high))):=fun W=>lends_any pa pc p ba bo ca cb x m1 m2 wish W
 have HL2:Hid (∀ W,Below w.z w W→HoldsL W w.z (KkV pa pc p ba ca bo cb x m1 m2)→HoldsL W (w.z+1) [iV proto]→HoldsL W (w.z+1+1) [.string s]→Cb 183 #[iV (p.low+(p.low+wish) % 2),iV p.high,iV 2,.func (.func 182) #[] #[.pointer (some ⟨w.z,0,none⟩),.pointer (some ⟨w.z+1,0,none⟩),.pointer (some ⟨w.z+1+1,0,none⟩)]] W (.tuple #[iV ((leastN (fun m=>decide (m % 2=wish % 2)&&freeP xs proto s m) p.low (p.high-p.low+1).toNat).getD 0),.bool (leastN (fun m=>decide (m % 2=wish % 2)&&freeP xs proto s m) p.low (p.high-p.low+1).toNat).isSome])):=fun W hW h1 h2 h3=>by
  rw [leastN_first (by omega) hw0 hlh];exact least_any (freeP xs proto s) (fun n=>leastN (fun m=>decide (m % 2=wish % 2)&&freeP xs proto s m) n (p.high-n+1).toNat) (fun n=>n % 2=wish % 2) 2 (p.low+(p.low+wish) % 2) p.high _ (fun args W=>by kernel_rfl) _ W (by omega) (by omega) hhi (by omega) (by omega) (by show _ % 2=_; omega) (fun n hn=>by show _ % 2=_; have:n % 2=wish % 2:=hn; omega) (fun n hn hle=>leastN_par hle hn) (fun n hn hgt=>leastN_end hgt) (fun W' hW' n hn0 hn1=>HFR.out W' (hW.trans (hW'.mono hW.size)) (h1.kept (by simp) hW') (h2.kept (by simp) hW') (h3.kept (by simp) hW') n hn0 hn1)
 have HL1:Hid (∀ W,Below w.z w W→HoldsL W w.z (KkV pa pc p ba ca bo cb x m1 m2)→HoldsL W (w.z+1) [iV proto]→HoldsL W (w.z+1+1) [.string s]→Cb 183 #[iV p.low,iV p.high,iV 1,.func (.func 182) #[] #[.pointer (some ⟨w.z,0,none⟩),.pointer (some ⟨w.z+1,0,none⟩),.pointer (some ⟨w.z+1+1,0,none⟩)]] W (.tuple #[iV ((leastN (freeP xs proto s) p.low (p.high-p.low+1).toNat).getD 0),.bool (leastN (freeP xs proto s) p.low (p.high-p.low+1).toNat).isSome])):=fun W hW h1 h2 h3 =>
  least_any (freeP xs proto s) (fun n=>leastN (freeP xs proto s) n (p.high-n+1).toNat) (fun n=>True) 1 p.low p.high _ (fun args W=>by kernel_rfl) _ W (by omega) (by omega) hhi (by omega) (by omega) trivial (fun n hn=>trivial) (fun n hn hle=>leastN_step hle) (fun n hn hgt=>leastN_end hgt) (fun W' hW' n hn0 hn1=>HFR.out W' (hW.trans (hW'.mono hW.size)) (h1.kept (by simp) hW') (h2.kept (by simp) hW') (h3.kept (by simp) hW') n hn0 hn1)
 have HV:Hid _:=lendN_or p xs proto s wish;generalize lendN p xs proto s wish=ans at *;generalize leastN (fun m=>decide (m % 2=wish % 2)&&freeP xs proto s m) p.low (p.high-p.low+1).toNat=o2 at *;generalize leastN (freeP xs proto s) p.low (p.high-p.low+1).toNat=o1 at *;generalize isIn wish p.low p.high=il at *;have HFW:Hid _:=fun W a1 a2 a3 a4=>HFR.out W a1 a2 a3 a4 wish hw0 hw1
 generalize freeP xs proto s wish=fw at *;clear hbk HFR;have hun:undef=Value.tuple #[]:=rfl;unfold bkC;go_enter Tryz.func171,Tryz.ntmps171
 go_upto_region 1 with fail
 generalize World.alloc _ _=W at *;obtain ⟨k0,k1,k2,k3,k4,k5,k6,k7,k8,k9,k10,k11,k12,k13⟩:=HK.out.c14;go_wp2_with fail
 refine (HLD.out _).mono ?_;rintro e w1 ⟨rfl,q1⟩;have HZ1:Hid _:=HZ.out.trans (q1.mono HZ.out.size);have HK1:Hid _:=HK.out.kept (by simp) q1;have H51:Hid _:=H5.out.kept (by simp) q1;have H61:Hid _:=H6.out.kept (by simp) q1;clear q1 HZ HK H5 H6 HLD k0 k1 k2 k3 k4 k5 k6 k7 k8 k9 k10 k11 k12 k13
 cases il with
 | false =>
  obtain ⟨-,k1,k2⟩:=HK1.out.c3;have HV2:Hid (ans=o2.or o1):=by unfold Hid; rw [HV.out]; simp
  clear HV;go_wp2_with fail
  refine (HL2.out _ HZ1.out HK1.out H51.out H61.out).mono ?_;rintro e w3 ⟨rfl,q3⟩;have HZ3:Hid _:=HZ1.out.trans (q3.mono HZ1.out.size);have HK3:Hid _:=HK1.out.kept (by simp) q3;have H53:Hid _:=H51.out.kept (by simp) q3;have H63:Hid _:=H61.out.kept (by simp) q3;clear q3 k1 k2 HZ1 HK1 H51 H61 HL2
  cases o2 with
  | some n =>
   have HX:Hid (ans=some n):=HV2.out;go_wp2_with fail
   go_ret2
   exact ⟨by rw [HX.out]; rfl,HZ3.out⟩
  | none =>
   have HX:Hid (ans=o1):=HV2.out;obtain ⟨-,k1,k2⟩:=HK3.out.c3;go_wp2_with fail
   refine (HL1.out _ HZ3.out HK3.out H53.out H63.out).mono ?_;rintro e w4 ⟨rfl,q4⟩;have HZ4:Hid _:=HZ3.out.trans (q4.mono HZ3.out.size);clear q4 k1 k2;go_wp2_with fail
   go_ret2
   exact ⟨by rw [HX.out]; rfl,HZ4.out⟩
 | true =>
  go_wp2_with fail
  refine (HFW.out _ HZ1.out HK1.out H51.out H61.out).mono ?_;rintro e w2 ⟨rfl,q2⟩;have HZ2:Hid _:=HZ1.out.trans (q2.mono HZ1.out.size);have HK2:Hid _:=HK1.out.kept (by simp) q2;have H52:Hid _:=H51.out.kept (by simp) q2;have H62:Hid _:=H61.out.kept (by simp) q2;clear q2 HZ1 HK1 H51 H61 HFW
  cases fw with
  | true =>
   have HX:Hid (ans=some wish):=by unfold Hid; rw [HV.out]; rfl
   go_wp2_with fail
   go_ret2
   exact ⟨by rw [HX.out]; rfl,HZ2.out⟩
  | false =>
   obtain ⟨-,k1,k2⟩:=HK2.out.c3;have HV2:Hid (ans=o2.or o1):=by unfold Hid; rw [HV.out]; simp
   clear HV;go_wp2_with fail
   refine (HL2.out _ HZ2.out HK2.out H52.out H62.out).mono ?_;rintro e w3 ⟨rfl,q3⟩;have HZ3:Hid _:=HZ2.out.trans (q3.mono HZ2.out.size);have HK3:Hid _:=HK2.out.kept (by simp) q3;have H53:Hid _:=H52.out.kept (by simp) q3;have H63:Hid _:=H62.out.kept (by simp) q3;clear q3 k1 k2 HZ2 HK2 H52 H62 HL2
   cases o2 with
   | some n =>
    have HX:Hid (ans=some n):=HV2.out;go_wp2_with fail
    go_ret2
    exact ⟨by rw [HX.out]; rfl,HZ3.out⟩
   | none =>
    have HX:Hid (ans=o1):=HV2.out;obtain ⟨-,k1,k2⟩:=HK3.out.c3;go_wp2_with fail
    refine (HL1.out _ HZ3.out HK3.out H53.out H63.out).mono ?_;rintro e w4 ⟨rfl,q4⟩;have HZ4:Hid _:=HZ3.out.trans (q4.mono HZ3.out.size);clear q4 k1 k2;go_wp2_with fail
    go_ret2
    exact ⟨by rw [HX.out]; rfl,HZ4.out⟩
end Go.Proofs.YtdkepkaflielhaaGreatDoor
