import Derived.Test.YtdkepkaflielhaaGreatDoorMerged10
set_option linter.unusedVariables false
set_option linter.unusedSimpArgs false
set_option maxRecDepth 100000
set_option maxHeartbeats 8000000
namespace Go.Proofs.YtdkepkaflielhaaGreatDoor
open Go.RowKit Go.PlainAid
theorem CS(xs:List Bd)(UU:Int)(s:BA)(n:Int):dN xs UU s n=!xs.any (dE UU s n):=by
 unfold dN;rw[←mG];by_cases h:bG (dE UU s n) xs < 0
 ·rw[TT h,TR (by omega)];rfl
 ·rw[TR h,TT (by omega)];rfl
theorem MI(p:Pl)(xs:List Bd)(UU:Int)(s:BA)(wish:Int):jE p xs UU s wish=if (aM wish p.low p.high&&dN xs UU s wish)=true then some wish else (cK (fun n=>decide (n % 2=wish % 2)&&dN xs UU s n) p.low (p.high-p.low+1).toNat).or (cK (dN xs UU s) p.low (p.high-p.low+1).toNat):=by
 unfold jE;split
 ·rfl
 ·cases cK (fun n=>decide (n % 2=wish % 2)&&dN xs UU s n) p.low (p.high-p.low+1).toNat<;>rfl
theorem yI(f:Int→Bool)(L:Int→Option Int)(I:Int→Prop)(st lo hi:Int)(F:Nat)(hG:rB F)(caps:Array Value)(w:World)(h0:0≤lo)(hlo:lo≤65540)(hhi:hi≤65535)(hst1:1≤st)(hst2:st≤2)(hIs:I lo)(hIn:∀n,I n→I (n+st))(hL:∀n,I n→n≤hi→L n=if f n=true then some n else L (n+st))(hE:∀n,I n→hi < n→L n=none)
  (hC:∀W,Below w.heap.size w W→∀n,0≤n→n≤65535→Calls Tryz.prog F (#[iV n]++caps) W fun e w'=>e=.returned (.bool (f n))∧Below W.heap.size W w') :
  Cb 183 #[iV lo,iV hi,iV st,.func (.func F) #[] caps] w (.tuple #[iV ((L lo).getD 0),.bool (L lo).isSome]):=by
 have HC:Hid _:=hC;have HL:Hid _:=hL;have HE:Hid _:=hE;have HIN:Hid (∀n,I n→I (n+st)):=hIn;obtain⟨lv,hlv⟩: ∃y,y=L lo:=⟨_,rfl⟩;have HLV:Hid (lv=L lo):=hlv;rw[←hlv];clear hC hL hE hIn hlv;unfold rB at hG;go_enter Tryz.func183,Tryz.ntmps183
 go_wp2_with fail
 go_loopw [10] (fun pv wr=>∃n:Int,0≤n∧n≤65540∧pv=iV n∧Hid (I n)∧Hid (lv=L n)∧Below w.heap.size w wr) (fun pv _=>(65541-intOf pv).toNat)
 case atStart=>exact⟨lo,by omega,by omega,rfl,hIs,HLV.out,Below.refl _ _⟩
 case round=>
  obtain⟨n,hn0,hn1,rfl,hin,hln,hb⟩:=hrel;have HB:Hid (Below w.heap.size w wr):=hb;clear hb;by_cases hle:n≤hi
  ·have HC2:Hid _:=HC.out wr HB.out n hn0 (by omega);have HL2:Hid _:=HL.out n hin.out hle;obtain⟨fb,hfb⟩: ∃y,y=f n:=⟨_,rfl⟩;rw[←hfb]at HC2 HL2;clear hfb;go_wp2_with fail
   refine Calls.mono HC2.out ?_;rintro e w1 ⟨rfl,q1⟩;have HB1:Hid _:=HB.out.trans (q1.mono HB.out.size);clear q1
   cases fb with
   | true=>
    have HX:Hid (lv=some n):=by unfold Hid;rw[hln.out,HL2.out,if_pos rfl]
    go_wp2_with fail
    go_ret2
    exact⟨by rw[HX.out];rfl,HB1.out⟩
   | false=>
    have HX:Hid (lv=L (n+st)):=by unfold Hid;rw[hln.out,HL2.out,if_neg (by simp)]
    have HI2:Hid (I (n+st)):=HIN.out n hin.out;go_wp2_with fail
    go_roundw
    case rel=>exact⟨n+st,by omega,by omega,rfl,HI2,HX,HB1.out⟩
    case measure=>simp[intOf];omega
  ·have HX:Hid (lv=none):=by unfold Hid;rw[hln.out];exact HE.out n hin.out (by omega)
   have hgt:hi < n:=by omega
   go_wp2_with fail
   go_ret2
   exact⟨by rw[HX.out];rfl,HB.out⟩
theorem JW(pa:OA)(pc:Nat)(p:Pl)(ba bo:OA)(ca cb:Nat)(x:Bb)(m1 m2:Nat)(xs:List Bd)(UU:Int)(s:BA)(port:Int)(B4 B5 B6:Nat)(w:World)(he:qU ⟨UU,s,port⟩)(hk:aA w B4 (iF pa pc p ba ca bo cb x m1 m2))(h5:aA w B5 [iV UU])(h6:aA w B6 [.string s])(hbk:dF w m1 m2 xs xs) :
  Cb 182 #[iV port,.pointer (some ⟨B4,0,none⟩),.pointer (some ⟨B5,0,none⟩),.pointer (some ⟨B6,0,none⟩)] w (.bool (dN xs UU s port)):=by
 obtain⟨c,hc⟩: ∃c,c=(xs.find? fun q=>bU (iY q) ⟨UU,s,port⟩).getD lT:=⟨_,rfl⟩;have LK:(Instr.lookup 137 (.map (some m2)) (.agg (iE UU s port).toArray) true).run Tryz.prog w=.ok (.tuple #[.agg (dH c).toArray,.bool (xs.any (dE UU s port))]) w:=by
  have h:=hbk.look2 (e:=⟨UU,s,port⟩) he;rw[iU,←hc,show (fun q=>bU (iY q) ⟨UU,s,port⟩)=dE UU s port from funext fun c=>sK _ _ _ c]at h;exact h
 have HV:Hid (dN xs UU s port=!xs.any (dE UU s port)):=CS xs UU s port;have k13:=hk.cell (j:=13) rfl;have k5:=h5.cell (j:=0) rfl;have k6:=h6.cell (j:=0) rfl;generalize dN xs UU s port=ans at *;generalize xs.any (dE UU s port)=an at *;clear hc hk h5 h6 hbk he;have HZ:Hid (Below w.heap.size w (w.alloc (.cells (dH c).toArray 48))):=bR.alloc lR _;go_enter Tryz.func182,Tryz.ntmps182
 go_wp2_with (at_lookup;refine iS rfl _ _ _ _ rfl rfl rfl LK ?_)
 go_ret;exact⟨aB HV.out.symm,HZ.out⟩
theorem zU(pa:OA)(pc:Nat)(p:Pl)(ba bo:OA)(ca cb:Nat)(x:Bb)(m1 m2:Nat)(xs:List Bd)(UU:Int)(s:BA)(wish:Int)(w:World)(hpo:cT p=true)(hs:s.size≤1048576)(hpr:gO UU)(hw0:0≤wish)(hw1:wish≤65535)(hbk:dF w m1 m2 xs xs) :
  Cb 171 #[CF pa pc p ba bo ca cb x m1 m2,iV UU,.string s,iV wish] w (.tuple #[iV ((jE p xs UU s wish).getD 0),.bool (jE p xs UU s wish).isSome]):=by
 have hpb:1≤p.low∧p.low≤p.high∧p.high≤65535:=by
  unfold cT at hpo;simp only[TP,TU]at hpo;omega
 obtain⟨hlo,hlh,hhi⟩:=hpb;clear hpo;have HZ:Hid (Below w.heap.size w ((aW (aW w (iF pa pc p ba ca bo cb x m1 m2) 139) [iV UU] 2).alloc (.cells #[.string s] 9))):=((bR.alloc lR _).alloc (by simp) _).alloc (by simp;omega) _;have HK:Hid (aA ((aW (aW w (iF pa pc p ba ca bo cb x m1 m2) 139) [iV UU] 2).alloc (.cells #[.string s] 9)) w.heap.size (iF pa pc p ba ca bo cb x m1 m2)):=((aA.new w (iF pa pc p ba ca bo cb x m1 m2) 139).alloc _).alloc _;have H5:Hid (aA ((aW (aW w (iF pa pc p ba ca bo cb x m1 m2) 139) [iV UU] 2).alloc (.cells #[.string s] 9)) (w.heap.size+1) [iV UU]):=by
  have h:=(aA.new (w.alloc (.cells (iF pa pc p ba ca bo cb x m1 m2).toArray 139)) [iV UU] 2).alloc (.cells #[.string s] 9);rw[TQ]at h;exact h
 have H6:Hid (aA ((aW (aW w (iF pa pc p ba ca bo cb x m1 m2) 139) [iV UU] 2).alloc (.cells #[.string s] 9)) (w.heap.size+1+1) [.string s]):=by
  have h:=aA.new ((aW w (iF pa pc p ba ca bo cb x m1 m2) 139).alloc (.cells #[iV UU] 2)) [.string s] 9;rw[TQ,TQ]at h;exact h
 have HBK:Hid (dF w m1 m2 xs xs):=hbk;have HFR:Hid (∀W,Below w.heap.size w W→aA W w.heap.size (iF pa pc p ba ca bo cb x m1 m2)→aA W (w.heap.size+1) [iV UU]→aA W (w.heap.size+1+1) [.string s]→∀n,0≤n→n≤65535→Cb 182 #[iV n,.pointer (some ⟨w.heap.size,0,none⟩),.pointer (some ⟨w.heap.size+1,0,none⟩),.pointer (some ⟨w.heap.size+1+1,0,none⟩)] W (.bool (dN xs UU s n))):=fun W hW h1 h2 h3 n hn0 hn1=>JW pa pc p ba bo ca cb x m1 m2 xs UU s n _ _ _ W ⟨hs,hpr,⟨by show _≤n;omega,by show n≤_;omega⟩⟩ h1 h2 h3 (hbk.kept hW)
 have HLD:Hid (∀W,Cb 165 #[.agg (iF pa pc p ba ca bo cb x m1 m2).toArray,iV wish] W (.bool (aM wish p.low p.high))):=fun W=>yJ pa pc p ba bo ca cb x m1 m2 wish W
 have HL2:Hid (∀W,Below w.heap.size w W→aA W w.heap.size (iF pa pc p ba ca bo cb x m1 m2)→aA W (w.heap.size+1) [iV UU]→aA W (w.heap.size+1+1) [.string s]→Cb 183 #[iV (p.low+(p.low+wish) % 2),iV p.high,iV 2,.func (.func 182) #[] #[.pointer (some ⟨w.heap.size,0,none⟩),.pointer (some ⟨w.heap.size+1,0,none⟩),.pointer (some ⟨w.heap.size+1+1,0,none⟩)]] W (.tuple #[iV ((cK (fun m=>decide (m % 2=wish % 2)&&dN xs UU s m) p.low (p.high-p.low+1).toNat).getD 0),.bool (cK (fun m=>decide (m % 2=wish % 2)&&dN xs UU s m) p.low (p.high-p.low+1).toNat).isSome])):=fun W hW h1 h2 h3=>by
  rw[AH (by omega) hw0 hlh];exact yI (dN xs UU s) (fun n=>cK (fun m=>decide (m % 2=wish % 2)&&dN xs UU s m) n (p.high-n+1).toNat) (fun n=>n % 2=wish % 2) 2 (p.low+(p.low+wish) % 2) p.high _ (fun args W=>by kernel_rfl) _ W (by omega) (by omega) hhi (by omega) (by omega) (by show _ % 2=_;omega) (fun n hn=>by show _ % 2=_;have:n % 2=wish % 2:=hn;omega) (fun n hn hle=>GI hle hn) (fun n hn hgt=>rK hgt) (fun W' hW' n hn0 hn1=>HFR.out W' (hW.trans (hW'.mono hW.size)) (h1.kept (by simp) hW') (h2.kept (by simp) hW') (h3.kept (by simp) hW') n hn0 hn1)
 have HL1:Hid (∀W,Below w.heap.size w W→aA W w.heap.size (iF pa pc p ba ca bo cb x m1 m2)→aA W (w.heap.size+1) [iV UU]→aA W (w.heap.size+1+1) [.string s]→Cb 183 #[iV p.low,iV p.high,iV 1,.func (.func 182) #[] #[.pointer (some ⟨w.heap.size,0,none⟩),.pointer (some ⟨w.heap.size+1,0,none⟩),.pointer (some ⟨w.heap.size+1+1,0,none⟩)]] W (.tuple #[iV ((cK (dN xs UU s) p.low (p.high-p.low+1).toNat).getD 0),.bool (cK (dN xs UU s) p.low (p.high-p.low+1).toNat).isSome])):=fun W hW h1 h2 h3=>
  yI (dN xs UU s) (fun n=>cK (dN xs UU s) n (p.high-n+1).toNat) (fun n=>True) 1 p.low p.high _ (fun args W=>by kernel_rfl) _ W (by omega) (by omega) hhi (by omega) (by omega) trivial (fun n hn=>trivial) (fun n hn hle=>nE hle) (fun n hn hgt=>rK hgt) (fun W' hW' n hn0 hn1=>HFR.out W' (hW.trans (hW'.mono hW.size)) (h1.kept (by simp) hW') (h2.kept (by simp) hW') (h3.kept (by simp) hW') n hn0 hn1)
 have HV:Hid _:=MI p xs UU s wish;generalize jE p xs UU s wish=ans at *;generalize cK (fun m=>decide (m % 2=wish % 2)&&dN xs UU s m) p.low (p.high-p.low+1).toNat=o2 at *;generalize cK (dN xs UU s) p.low (p.high-p.low+1).toNat=o1 at *;generalize aM wish p.low p.high=il at *;have HFW:Hid _:=fun W a1 a2 a3 a4=>HFR.out W a1 a2 a3 a4 wish hw0 hw1
 generalize dN xs UU s wish=fw at *;clear hbk HFR;have hun:undef=Value.tuple #[]:=rfl;unfold CF;go_enter Tryz.func171,Tryz.ntmps171
 go_upto_region 1 with fail
 generalize World.alloc _ _=W at *;obtain⟨k0,k1,k2,k3,k4,k5,k6,k7,k8,k9,k10,k11,k12,k13⟩:=HK.out.c14;go_wp2_with fail
 refine(HLD.out _).mono ?_;rintro e w1 ⟨rfl,q1⟩;have HZ1:Hid _:=HZ.out.trans (q1.mono HZ.out.size);have HK1:Hid _:=HK.out.kept (by simp) q1;have H51:Hid _:=H5.out.kept (by simp) q1;have H61:Hid _:=H6.out.kept (by simp) q1;clear q1 HZ HK H5 H6 HLD k0 k1 k2 k3 k4 k5 k6 k7 k8 k9 k10 k11 k12 k13
 cases il with
 | false=>
  obtain⟨-,k1,k2⟩:=HK1.out.c3;have HV2:Hid (ans=o2.or o1):=by unfold Hid;rw[HV.out];simp
  clear HV;go_wp2_with fail
  refine(HL2.out _ HZ1.out HK1.out H51.out H61.out).mono ?_;rintro e w3 ⟨rfl,q3⟩;have HZ3:Hid _:=HZ1.out.trans (q3.mono HZ1.out.size);have HK3:Hid _:=HK1.out.kept (by simp) q3;have H53:Hid _:=H51.out.kept (by simp) q3;have H63:Hid _:=H61.out.kept (by simp) q3;clear q3 k1 k2 HZ1 HK1 H51 H61 HL2
  cases o2 with
  | some n=>
   have HX:Hid (ans=some n):=HV2.out;go_wp2_with fail
   go_ret2
   exact⟨by rw[HX.out];rfl,HZ3.out⟩
  | none=>
   have HX:Hid (ans=o1):=HV2.out;obtain⟨-,k1,k2⟩:=HK3.out.c3;go_wp2_with fail
   refine(HL1.out _ HZ3.out HK3.out H53.out H63.out).mono ?_;rintro e w4 ⟨rfl,q4⟩;have HZ4:Hid _:=HZ3.out.trans (q4.mono HZ3.out.size);clear q4 k1 k2;go_wp2_with fail
   go_ret2
   exact⟨by rw[HX.out];rfl,HZ4.out⟩
 | true=>
  go_wp2_with fail
  refine(HFW.out _ HZ1.out HK1.out H51.out H61.out).mono ?_;rintro e w2 ⟨rfl,q2⟩;have HZ2:Hid _:=HZ1.out.trans (q2.mono HZ1.out.size);have HK2:Hid _:=HK1.out.kept (by simp) q2;have H52:Hid _:=H51.out.kept (by simp) q2;have H62:Hid _:=H61.out.kept (by simp) q2;clear q2 HZ1 HK1 H51 H61 HFW
  cases fw with
  | true=>
   have HX:Hid (ans=some wish):=by unfold Hid;rw[HV.out];rfl
   go_wp2_with fail
   go_ret2
   exact⟨by rw[HX.out];rfl,HZ2.out⟩
  | false=>
   obtain⟨-,k1,k2⟩:=HK2.out.c3;have HV2:Hid (ans=o2.or o1):=by unfold Hid;rw[HV.out];simp
   clear HV;go_wp2_with fail
   refine(HL2.out _ HZ2.out HK2.out H52.out H62.out).mono ?_;rintro e w3 ⟨rfl,q3⟩;have HZ3:Hid _:=HZ2.out.trans (q3.mono HZ2.out.size);have HK3:Hid _:=HK2.out.kept (by simp) q3;have H53:Hid _:=H52.out.kept (by simp) q3;have H63:Hid _:=H62.out.kept (by simp) q3;clear q3 k1 k2 HZ2 HK2 H52 H62 HL2
   cases o2 with
   | some n=>
    have HX:Hid (ans=some n):=HV2.out;go_wp2_with fail
    go_ret2
    exact⟨by rw[HX.out];rfl,HZ3.out⟩
   | none=>
    have HX:Hid (ans=o1):=HV2.out;obtain⟨-,k1,k2⟩:=HK3.out.c3;go_wp2_with fail
    refine(HL1.out _ HZ3.out HK3.out H53.out H63.out).mono ?_;rintro e w4 ⟨rfl,q4⟩;have HZ4:Hid _:=HZ3.out.trans (q4.mono HZ3.out.size);clear q4 k1 k2;go_wp2_with fail
    go_ret2
    exact⟨by rw[HX.out];rfl,HZ4.out⟩
def cJ(p:Pl)(xs:List Bd)(h:En):Bd × Bool :=
 if (xs.find? (cD h.UU h.addr h.port)).isSome=true then ((xs.find? (cD h.UU h.addr h.port)).getD lT,true)
 else (⟨h.UU,h.addr,h.port,dQ xs (jL p h.addr) h.addr,(jE p xs h.UU (dQ xs (jL p h.addr) h.addr) h.port).getD 0⟩,(jE p xs h.UU (dQ xs (jL p h.addr) h.addr) h.port).isSome)
theorem zI(p:Pl)(xs:List Bd)(h:En):gG p xs h.UU h.addr h.port=if (cJ p xs h).2=true then ((cJ p xs h).1,0) else (lT,9):=by
 unfold gG cJ
 cases xs.find? (cD h.UU h.addr h.port) with
 | some c=>rfl
 | none=>
  cases jE p xs h.UU (dQ xs (jL p h.addr) h.addr) h.port<;>rfl
theorem vZ{xs:List Bd}{s d:BA}(h:(xs.find? (cQ s)).isSome=true):dQ xs d s=dQ xs ⟨#[]⟩ s:=by
 unfold dQ;cases hf:xs.find? (cQ s) with
 | some c=>rfl
 | none=>rw[hf]at h;simp at h
theorem GP{xs:List Bd}{s d:BA}(h:(xs.find? (cQ s)).isSome=false):dQ xs d s=d:=by
 unfold dQ;cases hf:xs.find? (cQ s) with
 | some c=>rw[hf]at h;simp at h
 | none=>rfl
theorem DL{p:Pl}{xs:List Bd}{s:BA}(hps:∀s∈p.VA,s.size≤1048576)(hgb:∀q∈xs,fJ q):(dQ xs (jL p s) s).size≤1048576:=by
 unfold dQ
 cases hf:xs.find? (cQ s) with
 | some c=>exact(hgb c (UP hf)).2.1
 | none=>
  show (jL p s).size≤_;unfold jL
  cases ha:p.VA[(bI s).toNat % p.VA.length]? with
  | none=>exact UR _
  | some a=>exact hps a (List.mem_of_getElem? ha)
theorem CD(pa:OA)(pc:Nat)(p:Pl)(ba bo:OA)(ca cb:Nat)(x:Bb)(m1 m2:Nat)(h:En)(w:World)(hpo:cT p=true)(he:qU h)(hw0:0≤h.port)(hw1:h.port≤65535)(hps:∀s∈p.VA,s.size≤1048576)(hbl1:x.VC.length≤1048576)(hgb:∀q∈x.VC,fJ q)(hbk:dF w m1 m2 x.VC x.VC)(hp:bP bX 1 w pa p.VA)(hx:dI w ba bo x) :
  Cb 141 #[CF pa pc p ba bo ca cb x m1 m2,qV h] w (.tuple #[jI (cJ p x.VC h).1,.bool (cJ p x.VC h).2]):=by
 have hpb:1≤p.VA.length∧p.VA.length≤8:=by
  unfold cT at hpo;simp only[TP,TU]at hpo;omega
 obtain⟨hp1,hp8⟩:=hpb;have HPO:Hid (cT p=true):=hpo;have HZ:Hid (Below w.heap.size w ((aW (aW w (iF pa pc p ba ca bo cb x m1 m2) 139) (iE h.UU h.addr h.port) 86).alloc (.cells (iW 0 ⟨#[]⟩ 0 ⟨#[]⟩ 0).toArray 48))):=((bR.alloc lR _).alloc (by simp) _).alloc (by simp;omega) _;have HK:Hid (aA ((aW (aW w (iF pa pc p ba ca bo cb x m1 m2) 139) (iE h.UU h.addr h.port) 86).alloc (.cells (iW 0 ⟨#[]⟩ 0 ⟨#[]⟩ 0).toArray 48)) w.heap.size (iF pa pc p ba ca bo cb x m1 m2)):=((aA.new w (iF pa pc p ba ca bo cb x m1 m2) 139).alloc _).alloc _;have HH:Hid (aA ((aW (aW w (iF pa pc p ba ca bo cb x m1 m2) 139) (iE h.UU h.addr h.port) 86).alloc (.cells (iW 0 ⟨#[]⟩ 0 ⟨#[]⟩ 0).toArray 48)) (w.heap.size+1) (iE h.UU h.addr h.port)):=by
  have h:=(aA.new (w.alloc (.cells (iF pa pc p ba ca bo cb x m1 m2).toArray 139)) (iE h.UU h.addr h.port) 86).alloc (.cells (iW 0 ⟨#[]⟩ 0 ⟨#[]⟩ 0).toArray 48);rw[TQ]at h;exact h
 have HR:Hid (aA ((aW (aW w (iF pa pc p ba ca bo cb x m1 m2) 139) (iE h.UU h.addr h.port) 86).alloc (.cells (iW 0 ⟨#[]⟩ 0 ⟨#[]⟩ 0).toArray 48)) (w.heap.size+1+1) (iW 0 ⟨#[]⟩ 0 ⟨#[]⟩ 0)):=by
  have h:=aA.new ((aW w (iF pa pc p ba ca bo cb x m1 m2) 139).alloc (.cells (iE h.UU h.addr h.port).toArray 86)) (iW 0 ⟨#[]⟩ 0 ⟨#[]⟩ 0) 48;rw[TQ,TQ]at h;exact h
 have hRw:w.heap.size≤w.heap.size+1+1:=by omega
 obtain⟨c,hc⟩: ∃c,c=(x.VC.find? (cD h.UU h.addr h.port)).getD lT:=⟨_,rfl⟩;have HLK:Hid (∀W,Below w.heap.size w W→(Instr.lookup 137 (.map (some m1)) (.agg (iE h.UU h.addr h.port).toArray) true).run Tryz.prog W=.ok (.tuple #[.agg (dH c).toArray,.bool (x.VC.find? (cD h.UU h.addr h.port)).isSome]) W):=fun W hW=>by
  have hl:=(hbk.kept hW).look1 (e:=h) he;rw[show (fun q=>bU (bN q) h)=cD h.UU h.addr h.port from funext fun c=>oI _ _ _ c,←hc]at hl;exact hl
 have HO:Hid (∀W,Below w.heap.size w W→Cb 164 #[.slice ba x.VC.length ca,.string h.addr] W (.tuple #[.string (dQ x.VC ⟨#[]⟩ h.addr),.bool (x.VC.find? (cQ h.addr)).isSome])):=fun W hW=>yN h.addr x.VC ba ca W hbl1 (hx.bd.below hW)
 have HF:Hid (∀W s,Below w.heap.size w W→s.size≤1048576→Cb 171 #[.agg (iF pa pc p ba ca bo cb x m1 m2).toArray,iV h.UU,.string s,iV h.port] W (.tuple #[iV ((jE p x.VC h.UU s h.port).getD 0),.bool (jE p x.VC h.UU s h.port).isSome])):=fun W s hW hs=>zU pa pc p ba bo ca cb x m1 m2 x.VC h.UU s h.port W hpo hs he.2.1 hw0 hw1 (hbk.kept hW)
 have HSZ:Hid ((dQ x.VC (jL p h.addr) h.addr).size≤1048576):=DL hps hgb;have HV:Hid (cJ p x.VC h=if (x.VC.find? (cD h.UU h.addr h.port)).isSome=true then (c,true) else (⟨h.UU,h.addr,h.port,dQ x.VC (jL p h.addr) h.addr,(jE p x.VC h.UU (dQ x.VC (jL p h.addr) h.addr) h.port).getD 0⟩,(jE p x.VC h.UU (dQ x.VC (jL p h.addr) h.addr) h.port).isSome)):=by rw[hc];rfl
 have hsr:=cV h.addr;have HSU:Hid (∀W,Cb 170 #[.string h.addr] W (iV (bI h.addr))):=fun W=>(rT h.addr W (by have:=he.1;omega)).mono fun e w' hh=>⟨hh.1,by rw[hh.2];exact Below.refl _ _⟩
 obtain⟨ix,hix⟩: ∃i,i=(bI h.addr).toNat % p.VA.length:=⟨_,rfl⟩;have hixl:ix < p.VA.length:=by rw[hix];exact Nat.mod_lt _ (by omega)
 have hrem:(bI h.addr) % (p.VA.length:Int)=(ix:Int):=by
  obtain⟨n,hn⟩:=TZ hsr.1;rw[hix,hn,Int.toNat_natCast];rfl
 obtain⟨bp,op,rfl,hbp,hatp⟩:=hp.at hixl;have HPI:Hid (∀W,Below w.heap.size w W→W.cell? ⟨bp,op+ix,none⟩=some (.string (jL p h.addr))):=fun W hW=>by
  have hh:=(hatp.below hbp hW) ix hixl 0 _ rfl;have e:jL p h.addr=p.VA[ix]:=by unfold jL;rw[←hix,UJ hixl];rfl
  rw[e];simpa using hh
 have hixI:(ix:Int) < (p.VA.length:Int):=by omega
 have hnil:¬p.VA=[]:=fun e=>by rw[e]at hp1;simp at hp1
 have hrem2:(bI h.addr).tmod (p.VA.length:Int)=(ix:Int):=by rw[Int.tmod_eq_emod_of_nonneg hsr.1];exact hrem
 have HOS:Hid ((x.VC.find? (cQ h.addr)).isSome=true→dQ x.VC (jL p h.addr) h.addr=dQ x.VC ⟨#[]⟩ h.addr):=vZ;have HON:Hid ((x.VC.find? (cQ h.addr)).isSome=false→dQ x.VC (jL p h.addr) h.addr=jL p h.addr):=GP;generalize cJ p x.VC h=ans at *;generalize (x.VC.find? (cD h.UU h.addr h.port)).isSome=bd at *;generalize dQ x.VC (jL p h.addr) h.addr=ot at *;generalize dQ x.VC ⟨#[]⟩ h.addr=oe at *;generalize jL p h.addr=od at *;generalize (x.VC.find? (cQ h.addr)).isSome=mt at *;generalize bI h.addr=sv at *;clear hc hbk hp hx hgb hps he hpo hatp hbp hix;have hun:undef=Value.tuple #[]:=rfl;unfold CF qV;go_enter Tryz.func141,Tryz.ntmps141
 go_upto_region 1 with fail
 generalize World.alloc _ _=W at *;obtain⟨k0,k1,k2,k3,k4,k5,k6,k7,k8,k9,k10,k11,k12,k13⟩:=HK.out.c14;obtain⟨c0,c1,c2⟩:=HH.out.c3;have LK:=HLK.out W HZ.out;go_upto_region 2 with (at_lookup;refine iS rfl _ _ _ _ rfl rfl rfl LK ?_)
 have bn:Below W.heap.size W (W.alloc (.cells (dH c).toArray 48)):=bR.alloc lR _;have H6:Hid (aA (W.alloc (.cells (dH c).toArray 48)) W.heap.size (dH c)):=aA.new W (dH c) 48;have HZ1:Hid _:=HZ.out.trans (bn.mono HZ.out.size);have HK1:Hid _:=HK.out.kept (by simp) bn;have HH1:Hid _:=HH.out.kept (by simp) bn;have HR1:Hid _:=HR.out.kept (by simp) bn;clear HZ HK HH HR;generalize (W.alloc (.cells (dH c).toArray 48))=W1 at *;clear bn LK HLK k0 k1 k2 k3 k4 k5 k6 k7 k8 k9 k10 k11 k12 k13 c0 c1 c2
 cases bd with
 | true=>
  have HX:Hid (ans=(c,true)):=by unfold Hid;rw[HV.out,if_pos rfl]
  obtain⟨y0,y1,y2,y3,y4⟩:=H6.out.c5;obtain⟨z0,z1,z2,z3,z4⟩:=HR1.out.c5;obtain⟨zf0,zf1,zf2,zf3,zf4⟩:=HR1.out.f5;go_wp2_with fail
  refine UQ (v:=.tuple #[.agg (dH c).toArray,.bool true]) (by simp[results,Tryz.results141,go_sem,z0,z1,z2,z3,z4]) rfl (And.intro (by rw[HX.out];rfl) ?_);exact(sCl (sCl (sCl (sCl (sCl HZ1.out hRw) hRw) hRw) hRw) hRw)
 | false=>
  have HV2:Hid (ans=(⟨h.UU,h.addr,h.port,ot,(jE p x.VC h.UU ot h.port).getD 0⟩,(jE p x.VC h.UU ot h.port).isSome)):=by unfold Hid;rw[HV.out,if_neg (by simp)]
  clear HV H6;obtain⟨k0,k1,k2,k3,k4,k5,k6,k7,k8,k9,k10,k11,k12,k13⟩:=HK1.out.c14;obtain⟨c0,c1,c2⟩:=HH1.out.c3;go_wp2_with fail
  refine(HO.out _ HZ1.out).mono ?_;rintro e W2 ⟨rfl,q2⟩;have HZ2:Hid _:=HZ1.out.trans (q2.mono HZ1.out.size);have HK2:Hid _:=HK1.out.kept (by simp) q2;have HH2:Hid _:=HH1.out.kept (by simp) q2;have HR2:Hid _:=HR1.out.kept (by simp) q2;clear HZ1 HK1 HH1 HR1;clear q2 HO k0 k1 k2 k3 k4 k5 k6 k7 k8 k9 k10 k11 k12 k13 c0 c1 c2
  cases mt with
  | true=>
   obtain rfl:ot=oe:=HOS.out rfl;obtain⟨k0,k1,k2,k3,k4,k5,k6,k7,k8,k9,k10,k11,k12,k13⟩:=HK2.out.c14;obtain⟨c0,c1,c2⟩:=HH2.out.c3;go_wp2_with fail
   refine(HF.out _ ot HZ2.out HSZ.out).mono ?_;rintro e W9 ⟨rfl,q9⟩;have HZ9:Hid _:=HZ2.out.trans (q9.mono HZ2.out.size);have HK9:Hid _:=HK2.out.kept (by simp) q9;have HH9:Hid _:=HH2.out.kept (by simp) q9;have HR9:Hid _:=HR2.out.kept (by simp) q9;clear HZ2 HK2 HH2 HR2;clear q9 HF k0 k1 k2 k3 k4 k5 k6 k7 k8 k9 k10 k11 k12 k13 c0 c1 c2;generalize jE p x.VC h.UU ot h.port=ln at *;obtain⟨c0,c1,c2⟩:=HH9.out.c3;obtain⟨z0,z1,z2,z3,z4⟩:=HR9.out.c5;obtain⟨zf0,zf1,zf2,zf3,zf4⟩:=HR9.out.f5;go_wp2_with fail
   refine UQ (v:=.tuple #[.agg (iW h.UU h.addr h.port ot (ln.getD 0)).toArray,.bool ln.isSome]) (by simp[results,Tryz.results141,go_sem,z0,z1,z2,z3,z4]) rfl (And.intro (by rw[HV2.out];rfl) ?_);exact(sCl (sCl (sCl (sCl (sCl HZ9.out hRw) hRw) hRw) hRw) hRw)
  | false=>
   obtain rfl:ot=od:=HON.out rfl;go_upto_region 6 with fail
   go_cut [8] (fun v wx=>v=.string ot∧Below W2.heap.size W2 wx)
   case first=>
    rename_i J K2 hJ hK2;clear hun;have HCP:Hid (∀wy,Below W2.drew.heap.size W2.drew wy→aA wy w.heap.size (iF (some ⟨bp,op,none⟩) pc p ba ca bo cb x m1 m2)∧aA wy (w.heap.size+1) (iE h.UU h.addr h.port)∧Below w.heap.size w wy):=fun wy hy=>⟨HK2.out.drew.kept (by simp) hy,HH2.out.drew.kept (by simp) hy,HZ2.out.drew.trans (hy.mono HZ2.out.size)⟩
    refine bH [32,33,34,35,36,37,38,39,40,41,42,43,44,8] (by kernel_rfl) (by kernel_rfl) ?_;iterate 2 (apply cW.u rfl;(·intro K' a wy ho hd hb hK;simp[aS,aF,aD,Region.binds]at ho hd;go_simp;(try go_bits);exact hK _ _ rfl bQ);dsimp only[nA,cA])
    apply cW.v2
    ·rfl
    ·intro K' a wy ho hd hb hK kz;have q1:=hd ⟨1,.data⟩ (by simp) rfl;simp[aS,aF,aD]at q1;clear hd ho;obtain⟨hk,hh,hbw⟩:=HCP.out wy hb;obtain⟨k0,k1,k2,k3,k4,k5,k6,k7,k8,k9,k10,k11,k12,k13⟩:=hk.c14;obtain⟨c0,c1,c2⟩:=hh.c3;have hpi:=HPI.out wy hbw;have hpi1:wy.cell? ⟨bp,op+ix*1,none⟩=some (.string ot):=by simpa using hpi
     go_simp;try go_bits
     exact kz _ rfl
    (apply cW.u rfl;(·intro K' a wy ho hd hb hK;simp[aS,aF,aD,Region.binds]at ho hd;go_simp;(try go_bits);exact hK _ _ rfl bQ);dsimp only[nA,cA])
    apply cW.v4
    ·rfl
    ·intro K' a wy ho hd hb hK kz;have q3:=hd ⟨3,.data⟩ (by simp) rfl;simp[aS,aF,aD]at q3;clear hd ho;obtain⟨hk,hh,hbw⟩:=HCP.out wy hb;obtain⟨k0,k1,k2,k3,k4,k5,k6,k7,k8,k9,k10,k11,k12,k13⟩:=hk.c14;obtain⟨c0,c1,c2⟩:=hh.c3;have hpi:=HPI.out wy hbw;have hpi1:wy.cell? ⟨bp,op+ix*1,none⟩=some (.string ot):=by simpa using hpi
     go_simp;try go_bits
     exact kz _ rfl
    iterate 3 (apply cW.u rfl;(·intro K' a wy ho hd hb hK;simp[aS,aF,aD,Region.binds]at ho hd;go_simp;first|((try go_bits);exact hK _ _ rfl bQ)|(refine(HSU.out wy).mono ?_;rintro e wz ⟨rfl,hz⟩;exact hK _ _ rfl hz));dsimp only[nA,cA])
    apply cW.v8
    ·rfl
    ·intro K' a wy ho hd hb hK kz;have q7:=hd ⟨7,.data⟩ (by simp) rfl;simp[aS,aF,aD]at q7;clear hd ho;obtain⟨hk,hh,hbw⟩:=HCP.out wy hb;obtain⟨k0,k1,k2,k3,k4,k5,k6,k7,k8,k9,k10,k11,k12,k13⟩:=hk.c14;obtain⟨c0,c1,c2⟩:=hh.c3;have hpi:=HPI.out wy hbw;have hpi1:wy.cell? ⟨bp,op+ix*1,none⟩=some (.string ot):=by simpa using hpi
     go_simp;try go_bits
     exact kz _ rfl
    iterate 3 (apply cW.u rfl;(·intro K' a wy ho hd hb hK;simp[aS,aF,aD,Region.binds]at ho hd;go_simp;(try go_bits);exact hK _ _ rfl bQ);dsimp only[nA,cA])
    apply cW.v12
    ·rfl
    ·intro K' a wy ho hd hb hK kz;have q11:=hd ⟨11,.data⟩ (by simp) rfl;simp[aS,aF,aD]at q11;clear hd ho;obtain⟨hk,hh,hbw⟩:=HCP.out wy hb;obtain⟨k0,k1,k2,k3,k4,k5,k6,k7,k8,k9,k10,k11,k12,k13⟩:=hk.c14;obtain⟨c0,c1,c2⟩:=hh.c3;have hpi:=HPI.out wy hbw;have hpi1:wy.cell? ⟨bp,op+ix*1,none⟩=some (.string ot):=by simpa using hpi
     go_simp;try go_bits
     exact kz _ rfl
    (apply cW.u rfl;(·intro K' a wy ho hd hb hK;simp[aS,aF,aD,Region.binds]at ho hd;go_simp;(try go_bits);exact hK _ _ rfl bQ);dsimp only[nA,cA])
    intro X wz hR hz;simp only[UB,UC,eW,aF]at hR;simp only[aE,hR];clear hR;go_simp;refine hK2 _ _ (hJ _ _ ?_);(repeat apply Exists.intro)
    refine⟨⟨rfl,bR.drew.trans hz⟩,rfl⟩
   case rest=>
   obtain⟨rfl,qc⟩:=hcut;generalize wc=W3 at *;have HZ3:Hid _:=HZ2.out.trans (qc.mono HZ2.out.size);have HK3:Hid _:=HK2.out.kept (by simp) qc;have HH3:Hid _:=HH2.out.kept (by simp) qc;have HR3:Hid _:=HR2.out.kept (by simp) qc;clear HZ2 HK2 HH2 HR2;clear qc;obtain⟨k0,k1,k2,k3,k4,k5,k6,k7,k8,k9,k10,k11,k12,k13⟩:=HK3.out.c14;obtain⟨c0,c1,c2⟩:=HH3.out.c3;go_wp2_with fail
   refine(HF.out _ ot HZ3.out HSZ.out).mono ?_;rintro e W9 ⟨rfl,q9⟩;have HZ9:Hid _:=HZ3.out.trans (q9.mono HZ3.out.size);have HK9:Hid _:=HK3.out.kept (by simp) q9;have HH9:Hid _:=HH3.out.kept (by simp) q9;have HR9:Hid _:=HR3.out.kept (by simp) q9;clear HZ3 HK3 HH3 HR3;clear q9 HF k0 k1 k2 k3 k4 k5 k6 k7 k8 k9 k10 k11 k12 k13 c0 c1 c2;generalize jE p x.VC h.UU ot h.port=ln at *;obtain⟨c0,c1,c2⟩:=HH9.out.c3;obtain⟨z0,z1,z2,z3,z4⟩:=HR9.out.c5;obtain⟨zf0,zf1,zf2,zf3,zf4⟩:=HR9.out.f5;go_wp2_with fail
   refine UQ (v:=.tuple #[.agg (iW h.UU h.addr h.port ot (ln.getD 0)).toArray,.bool ln.isSome]) (by simp[results,Tryz.results141,go_sem,z0,z1,z2,z3,z4]) rfl (And.intro (by rw[HV2.out];rfl) ?_);exact(sCl (sCl (sCl (sCl (sCl HZ9.out hRw) hRw) hRw) hRw) hRw)
def vV(h:En)(peer:BA)(s:Ss):Bool:=bU (gT s) h&&decide (s.peer.toList=peer.toList)
def kZ(p:Pl)(x:Bb)(h:En)(peer:BA):Bool:=if p.filter=0 then true else if p.filter=1 then x.UZ.any (vV h peer) else false
def NA(p:Pl)(t:Tc)(h:En)(st now:Int):Ss:=⟨h.UU,h.addr,h.port,t.peer,t.UV,st,now+bT p.lv t.UU st⟩
def vQ(p:Pl)(xs:List Bd)(h:En):List Bd:=if (xs.find? (cD h.UU h.addr h.port)).isSome=true then xs else xs++[(cJ p xs h).1]
def lA(p:Pl)(x:Bb)(h:En)(t:Tc)(now:Int):Bo :=
 if bB t.UU t.UY t.VB=0 then lB 6
 else if (!t.UY&&!kZ p x h t.peer)=true then lB 6
 else if (x.UZ.length:Int)=p.most then lB 9
 else if (cJ p x.VC h).2=false then lB 9
 else ⟨⟨vQ p x.VC h,x.UZ++[NA p t h (bB t.UU t.UY t.VB) now]⟩,(cJ p x.VC h).1,0⟩
def cH(x:Bb)(t:Tc):En × Bool:=if t.UY=true then (⟨t.UU,t.addr,t.port⟩,true) else (bN ((x.VC.find? (dE t.UU t.addr t.port)).getD lT),(x.VC.find? (dE t.UU t.addr t.port)).isSome)
def pE(h:En)(t:Tc):Sk:=⟨h,t.peer,t.UV⟩
def IR(p:Pl)(x:Bb)(t:Tc)(now:Int):Bo :=
 if (cH x t).2=false then lB 6
 else match x.UZ.findIdx? (fun s=>dG (dZ s) (pE (cH x t).1 t)) with
  | none=>lA p x (cH x t).1 t now
  | some i=>⟨⟨x.VC,rP x.UZ i (lY p t now)⟩,(x.VC.find? (cD (cH x t).1.UU (cH x t).1.addr (cH x t).1.port)).getD lT,0⟩
theorem zG{a b:BA}(h:a.toList=b.toList):a=b:=by
 rw[ByteArray.toList_eq,ByteArray.toList_eq]at h;apply ByteArray.ext;exact Array.toList_inj.1 h
theorem pW(q p:En):bU q p=true↔q=p:=by
 rw[mJ];simp only[TP,TU];constructor
 ·rintro⟨⟨h1,h2⟩,h3⟩;have h4:=zG h2
  cases q;cases p;simp_all
 ·rintro rfl;simp
theorem iD{h:En}{c:Bd}:cD h.UU h.addr h.port c=true↔bN c=h:=by
 rw[←oI];exact pW _ _
theorem qT{c:Bd}{h:En}(hc:bN c=h)(t:Tc)(s:Ss):eR c t.peer t.UV s=dG (dZ s) (pE h t):=by
 unfold eR dG pE;rw[←sS,hc];show _=(bU (gT s) h&&((s.peer.toList==t.peer.toList)&&(s.UV==t.UV)));rw[Bool.eq_iff_iff];simp[and_assoc]
theorem KY{c:Bd}{h:En}(hc:bN c=h)(peer:BA)(s:Ss):kY c peer s=vV h peer s:=by
 unfold kY vV;rw[←sS,hc]
theorem JN{p:Pl}{x:Bb}(hok:cS p x=true){s:Ss}(hs:s∈x.UZ):x.VC.any (cD s.UU s.inn s.UW)=true:=by
 unfold cS at hok;simp only[TP]at hok;obtain⟨i,hi,rfl⟩:=UN hs;have:=gV.1 hok.2 i hi;unfold nF at this;simp only[TP]at this;exact this.1.1
theorem LS{p:Pl}{x:Bb}(hok:cS p x=true){c d:Bd}(hc:c∈x.VC)(hd:d∈x.VC)(he:bN c=bN d):c=d:=by
 unfold cS at hok;simp only[TP]at hok;have hF:=gV.1 hok.1.2;obtain⟨i,hi,rfl⟩:=UN hc;obtain⟨j,hj,rfl⟩:=UN hd;have key:∀i j (hi:i < x.VC.length) (hj:j < x.VC.length),i < j→bN x.VC[i]=bN x.VC[j]→False:=by
  intro i j hi hj hij he;have h1:=hF j hj;unfold lU at h1;simp only[TP,Bool.not_eq_true']at h1;have h6:=h1.1.1.1.2;refine List.any_eq_false.1 h6 x.VC[i] (qE hi hij) ?_;exact(iD (h:=bN x.VC[j])).2 he
 rcases Nat.lt_trichotomy i j with h|h|h
 ·exact(key i j hi hj h he).elim
 ·subst h;rfl
 ·exact(key j i hj hi h he.symm).elim
theorem qI{p:Pl}{x:Bb}(hok:cS p x=true){c:Bd}(hc:c∈x.VC){h:En}(he:bN c=h):x.VC.find? (cD h.UU h.addr h.port)=some c:=by
 cases hf:x.VC.find? (cD h.UU h.addr h.port) with
 | none=>
  have:=List.find?_eq_none.1 hf c hc;exact absurd (iD.2 he) this
 | some d=>
  have h1:=UP hf;have h2:=iD.1 (UT hf);rw[LS hok h1 hc (h2.trans he.symm)]
theorem sB(p:Pl)(xs:List Bd)(h:En):bN (cJ p xs h).1=h:=by
 unfold cJ;split
 ·rename_i hs
  cases hf:xs.find? (cD h.UU h.addr h.port) with
  | none=>rw[hf]at hs;simp at hs
  | some c=>exact iD.1 (UT hf)
 ·rfl
theorem nR{α:Type}{f:α→Bool}{xs:List α}:bG f xs < 0↔(xs.find? f).isSome=false:=by
 rw[iU,←mG];simp
theorem CT(p:Pl)(xs:List Bd)(h:En):nU xs (cJ p xs h).1=vQ p xs h:=by
 have e:=sB p xs h;generalize hc:(cJ p xs h).1=c at *;have e2:cD c.UU c.inn c.UW=cD h.UU h.addr h.port:=by rw[←e];rfl
 unfold nU vQ;rw[e2,hc]
 cases hs:(xs.find? (cD h.UU h.addr h.port)).isSome with
 | true=>rw[if_neg (fun hh=>by rw[nR,hs]at hh;exact absurd hh (by decide)),if_pos rfl]
 | false=>rw[if_pos (nR.2 hs),if_neg (by decide)]
theorem NB(p:Pl)(t:Tc)(h:En)(c:Bd)(st now:Int)(he:bN c=h)(hp:h.UU=t.UU):uJ p t c st now=NA p t h st now:=by
 subst he;unfold uJ NA;rw[hp];rfl
theorem BZ{p:Pl}{x:Bb}{t:Tc}(c:Bd)(now:Int)(hm:(x.UZ.length:Int)≤p.most)(hin:t.UY=true):jX p x t c now=lA p x ⟨t.UU,t.addr,t.port⟩ t now:=by
 unfold jX lA;by_cases h0:bB t.UU t.UY t.VB=0
 ·rw[if_pos h0,if_pos h0]
 have ha:¬(!t.UY&&!kZ p x ⟨t.UU,t.addr,t.port⟩ t.peer)=true:=by rw[hin];simp
 rw[if_neg h0,if_neg h0,if_neg ha];by_cases h1:(x.UZ.length:Int)=p.most
 ·have h2:p.most≤(x.UZ.length:Int):=by omega
  rw[if_pos h1,if_pos h2]
 have h2:¬p.most≤(x.UZ.length:Int):=by omega
 rw[if_neg h1,if_neg h2];clear h2;have hl:=zI p x.VC ⟨t.UU,t.addr,t.port⟩;dsimp only at hl;rw[hin,if_pos rfl,hl]
 cases h2:(cJ p x.VC ⟨t.UU,t.addr,t.port⟩).2 with
 | false=>simp[lB]
 | true=>
  simp only[if_true,ne_eq,not_true_eq_false,if_false,Bool.true_eq_false];rw[CT,NB p t ⟨t.UU,t.addr,t.port⟩ _ _ now (sB _ _ _) rfl]
theorem JL{p:Pl}{x:Bb}{t:Tc}{c:Bd}{now:Int}(hok:cS p x=true)(hfl:p.filter=0∨p.filter=1∨p.filter=2)(hm:(x.UZ.length:Int)≤p.most)(hin:t.UY=false)(hc:c∈x.VC)(hp:c.UU=t.UU):(if nB p x t c=true then lB 6 else jX p x t c now)=lA p x (bN c) t now:=by
 have hf:=qI hok hc (h:=bN c) rfl;have hb:cJ p x.VC (bN c)=(c,true):=by unfold cJ;rw[hf];rfl
 have hg:nB p x t c=(!t.UY&&!kZ p x (bN c) t.peer):=by
  unfold nB kZ;rw[show kY c t.peer=vV (bN c) t.peer from funext fun s=>KY rfl _ s];rcases hfl with h|h|h<;>rw[h]<;>simp
 rw[hg];unfold jX lA
 cases hd:(!t.UY&&!kZ p x (bN c) t.peer) with
 | true=>simp
 | false=>
  simp only[UD,if_false];by_cases h0:bB t.UU t.UY t.VB=0
  ·rw[if_pos h0,if_pos h0]
  rw[if_neg h0,if_neg h0];by_cases h1:(x.UZ.length:Int)=p.most
  ·have h2:p.most≤(x.UZ.length:Int):=by omega
   rw[if_pos h1,if_pos h2]
  have h2:¬p.most≤(x.UZ.length:Int):=by omega
  rw[if_neg h1,if_neg h2,hb,hin];simp only[UD,if_false,ne_eq,not_true_eq_false,Bool.true_eq_false];rw[show nU x.VC c=vQ p x.VC (bN c) from by rw[←CT,hb],NB p t (bN c) c _ now rfl hp]
theorem DQ{p:Pl}(h:cT p=true):p.filter=0∨p.filter=1∨p.filter=2:=by
 unfold cT at h;simp only[TP]at h;have:=eD h.1.1.2;omega
theorem OL{p:Pl}{x:Bb}{t:Tc}{now:Int}(hok:cS p x=true):IR p x t now=gF p x t now:=by
 have hk:=hok;unfold cS at hk;simp only[TP,TU]at hk;have hpo:=hk.1.1.1.1;have hm:=hk.1.1.1.2;clear hk;unfold IR gF cH
 cases hin:t.UY with
 | true=>
  simp only[if_true,Bool.true_eq_false,if_false]
  cases hf:x.VC.find? (cD t.UU t.addr t.port) with
  | none=>
   have hn:x.UZ.findIdx? (fun s=>dG (dZ s) (pE ⟨t.UU,t.addr,t.port⟩ t))=none:=by
    rw[List.findIdx?_eq_none_iff];intro s hs
    cases hh:dG (dZ s) (pE ⟨t.UU,t.addr,t.port⟩ t) with
    | false=>rfl
    | true=>
     unfold dG at hh;simp only[TP]at hh;have h1:gT s=⟨t.UU,t.addr,t.port⟩:=(pW _ _).1 hh.1;obtain⟨d,hd,hq⟩:=List.any_eq_true.1 (JN hok hs);have h2:bN d=gT s:=(iD (h:=gT s)).1 hq;exact absurd ((iD (h:=⟨t.UU,t.addr,t.port⟩)).2 (h2.trans h1)) (List.find?_eq_none.1 hf d hd)
   rw[hn];exact(BZ lT now hm hin).symm
  | some c=>
   have hc:=UP hf;have he:bN c=⟨t.UU,t.addr,t.port⟩:=(iD (h:=⟨t.UU,t.addr,t.port⟩)).1 (UT hf);dsimp only;rw[show eR c t.peer t.UV=fun s=>dG (dZ s) (pE ⟨t.UU,t.addr,t.port⟩ t) from funext fun s=>qT he t s]
   cases x.UZ.findIdx? (fun s=>dG (dZ s) (pE ⟨t.UU,t.addr,t.port⟩ t)) with
   | none=>
    dsimp only;rw[if_neg (by unfold nB;rw[hin];simp)];exact(BZ c now hm hin).symm
   | some i=>rfl
 | false=>
  simp only[UD,if_false]
  cases hf:x.VC.find? (dE t.UU t.addr t.port) with
  | none=>rfl
  | some c=>
   have hc:=UP hf;have hp:c.UU=t.UU:=by
    have:=UT hf;unfold dE at this;simp only[TP,TU]at this;exact this.1.1
   simp only[Option.isSome_some,Bool.true_eq_false,if_false,Option.getD_some];rw[show eR c t.peer t.UV=fun s=>dG (dZ s) (pE (bN c) t) from funext fun s=>qT rfl t s]
   cases x.UZ.findIdx? (fun s=>dG (dZ s) (pE (bN c) t)) with
   | none=>exact(JL hok (DQ hpo) hm hin hc hp).symm
   | some i=>
    dsimp only;rw[qI hok hc rfl];rfl
theorem IF(p:Pl)(x:Bb)(t:Tc)(now:Int):(if (cS p x&&bS now&&bY t)=true then IR p x t now else lB 1)=dB p x t now:=by
 unfold dB;rw[mN];by_cases h:(fS p x&&bS now&&bY t)=true
 ·rw[if_pos h,if_pos h];refine OL ?_;rw[mN];simp only[TP]at h;exact h.1.1
 ·rw[if_neg h,if_neg h]
theorem dC{P:Program}{o:Oper}{a:Act}{w w':World}{v1 v2 v':Value}{K:Act→World→Prop}{Q:Exit→Act→World→Prop}(s x:Operand)(t:TypeId)(hop:o.op=Op.call { callee:=Callee.builtin Builtin.append,args:=#[s,x],argTypes:=#[t,t] })
  (hs:a.eval s=v1) (hx:a.eval x=v2) (hrun:(Builtin.append_ #[t,t] o.type #[v1,v2]).run P w=.ok v' w') (hK:K (a.put o.dst v') w'):Oper.wp P o a w K Q:=by
 unfold Oper.wp;simp[execOp,hop,resolve,invoke,builtin,hs,hx,hrun,Result.andThen];exact hK
theorem sZ{P:Program}{ops:Array Oper}{rest:List Oper}{o:Oper}{a:Act}{w w':World}{v1 v2 v':Value}{Q:Exit→Act→World→Prop}(hg:o.guard=none)(s x:Operand)(t:TypeId)(hop:o.op=Op.call { callee:=Callee.builtin Builtin.append,args:=#[s,x],argTypes:=#[t,t] })
  (hs:a.eval s=v1) (hx:a.eval x=v2) (hrun:(Builtin.append_ #[t,t] o.type #[v1,v2]).run P w=.ok v' w') (hK:wpList P ops Q rest (a.put o.dst v') w'):wpList P ops Q (o::rest) a w :=
 wpList_plain hg fun K hK'=>dC s x t hop hs hx hrun (hK' _ _ hK)
theorem fX{base n z:Nat}{e:TypeId}{v:Value}{xs:List Value}{w w':World}(h:w.ownsRow base e z v n xs)(hb:Below w.heap.size w w'):w'.ownsRow base e z v n xs:=h.kept (jD (r:=none) hb) (by cases v.ownBlock<;>simp)
theorem cE{w:World}{base n s X j:Nat}{e:TypeId}{v u:Value}{xs:List Value}(h:w.ownsRow base e s v n xs)(hne:v.ownBlock≠some X):(w.setCell ⟨X,j,none⟩ u).ownsRow base e s v n xs:=by
 obtain⟨h1,h2⟩:=h;refine⟨h1,?_⟩;rcases h2 with h2|⟨g,cap,cur,rfl,hg,hh,h3⟩
 ·exact .inl h2
 ·exact .inr ⟨g,cap,cur,rfl,hg,(Below.heap_setCell w _ u g (fun e=>hne (by simpa[Value.ownBlock] using e))).trans hh,h3⟩
theorem fC{w:World}{base n s g:Nat}{e:TypeId}{v:Value}{xs:List Value}(h:w.ownsRow base e s v n xs)(hg:v.ownBlock=some g):base≤g∧g < w.heap.size:=by
 rcases h.2 with ⟨rfl,_⟩|⟨g',cap,cur,rfl,hb,hh,_⟩
 ·simp[Value.ownBlock]at hg
 ·simp[Value.ownBlock]at hg;subst hg;exact⟨hb,(UI.1 hh).1⟩
theorem dU{w:World}{base n s:Nat}{e:TypeId}{v:Value}{xs:List Value}(h:w.ownsRow base e s v n xs){X:Nat}(hX:X < base):v.ownBlock≠some X:=fun e=>by have:=(fC h e).1;omega
theorem zH(q:Bd):∀u∈eG q,u.oneCell'=true:=fun u hu=>by simp[eG]at hu;rcases hu with rfl|rfl|rfl|rfl|rfl<;>rfl
theorem BE(q:Ss):∀u∈fY q,u.oneCell'=true:=fun u hu=>by simp[fY]at hu;rcases hu with rfl|rfl|rfl|rfl|rfl|rfl|rfl<;>rfl
theorem rE(g i:Nat):(⟨g,0,none⟩: Addr).add i=⟨g,i,none⟩:=by cases i<;>simp[Addr.add]
structure SI(w:World)(cs:List Value)(bv sv:Value)(ys:List Bd)(zs:List Ss)(wx:World):Prop where
 x:aA wx w.heap.size cs
 r:aA wx (w.heap.size+1) [.slice none 0 0,.slice none 0 0]
 o:aA wx (w.heap.size+1+1) [bv,sv]
 bo:wx.ownsRow (w.heap.size+1+1+1) 48 5 bv ys.length (dK eG ys)
 so:wx.ownsRow (w.heap.size+1+1+1) 59 7 sv zs.length (dK fY zs)
 b:Below w.heap.size w wx
 ne:∀g,bv.ownBlock=some g→sv.ownBlock=some g→False
section
variable {w:World} {cs:List Value} {bv sv:Value} {ys:List Bd} {zs:List Ss} {wx wy:World}
theorem oE{row:Option Nat}(hb:Below w.heap.size w wx)(hg:wx.grownBy wy row)(hr:∀g,row=some g→w.heap.size≤g):Below w.heap.size w wy :=
 ⟨hg.os.trans hb.os,hg.tape.trans hb.tape,hg.output.trans hb.output,UA hb.size hg.size,fun k hk=>by
  rw[hg.block k (UM hk hb.size) (fun e=>by have:=hr k e.symm;omega)];exact hb.block k hk⟩
end
def jA(cs:List Value):Value→World→Prop:=fun v w=>∃g,v=.slice (some ⟨g,0,none⟩) 1 1∧aA w g cs
theorem gB(cs:List Value)(hl:0 < cs.length):eZ (jA cs):=fun v w w' ⟨g,h1,h2⟩ hb=>⟨g,h1,h2.kept hl hb⟩
structure gX(w:World)(base O:Nat)(ks:List (Nat × List Value))(bv sv:Value)(ys:List Bd)(zs:List Ss)(wx:World):Prop where
 o:aA wx O [bv,sv]
 bo:wx.ownsRow base 48 5 bv ys.length (dK eG ys)
 so:wx.ownsRow base 59 7 sv zs.length (dK fY zs)
 ne:∀g,bv.ownBlock=some g→sv.ownBlock=some g→False
 b:Below w.heap.size w wx
 k:∀e∈ks,aA wx e.1 e.2
 lo:w.heap.size≤O
 hi:O < base
 hb:base≤wx.heap.size
 kb:∀e∈ks,e.1 < base∧e.1≠O∧0 < e.2.length
section
variable {w:World} {base O:Nat} {ks:List (Nat × List Value)} {bv sv:Value} {ys:List Bd} {zs:List Ss} {wx wy:World}
theorem gX.at{a:Nat}{l:List Value}(h:gX w base O ks bv sv ys zs wx)(hm:(a,l)∈ks):aA wx a l:=h.k _ hm
theorem gX.kept(h:gX w base O ks bv sv ys zs wx)(hB:Below wx.heap.size wx wy):gX w base O ks bv sv ys zs wy :=
 ⟨h.o.kept (by simp) hB,fX h.bo hB,fX h.so hB,h.ne,h.b.trans (hB.mono h.b.size),fun e he=>(h.k e he).kept (h.kb e he).2.2 hB,h.lo,h.hi,UA h.hb hB.size,h.kb⟩
theorem gX.start{w:World}{O:Nat}{wx:World}(ks:List (Nat × List Value))(ho:aA wx O [.slice none 0 0,.slice none 0 0])(hb:Below w.heap.size w wx)(hk:∀e∈ks,aA wx e.1 e.2)(hl:w.heap.size≤O)(hkb:∀e∈ks,e.1 < wx.heap.size∧e.1≠O∧0 < e.2.length):gX w wx.heap.size O ks (.slice none 0 0) (.slice none 0 0) [] [] wx :=
 ⟨ho,⟨by simp[dK],.inl ⟨rfl,rfl⟩⟩,⟨by simp[dK],.inl ⟨rfl,rfl⟩⟩,fun g e=>by simp[Value.ownBlock]at e,hb,hk,hl,ho.lt (by simp),Nat.le_refl _,hkb⟩
theorem gX.appS(h:gX w base O ks bv sv ys zs wx)(q:Ss)(g:Nat)(hg:aA wx g (fY q))(jJ:zs.length≤1048576) :
  ∃v6 w6,(Builtin.append_ #[29,29] 29 #[sv,.slice (some ⟨g,0,none⟩) 1 1]).run Tryz.prog wx=.ok v6 w6∧(∃gg l c,v6=.slice (some ⟨gg,0,none⟩) l c)∧aA w6 O [bv,sv]∧gX w base O ks bv v6 ys (zs++[q]) (w6.setCell ⟨O,1,none⟩ v6):=by
 obtain⟨i0,hi,hz0,hz1,hz2⟩:=info_parts Tryz.infoSs;have hOb:=h.hi;have hlo:=h.lo;have hbb:=h.hb;obtain⟨v6,w6,hrun,h62,h63,h64,h65⟩:=run_append_own_at (P:=Tryz.prog) wx base 29 29 59 i0 _ 7 _ Tryz.underlying29 hi hz0 hz1 hz2 rfl (by decide) sv _ _ h.so ⟨g,0,none⟩ 1 1 (fY q) rfl (fun i u hu=>by rw[rE];exact hg.cell hu) (BE q) (by unfold maxLen;omega) (by omega) h.hb;have hnr:∀X,X < base→some X≠sv.ownBlock:=fun X hX e=>dU h.so hX e.symm
 have n6:v6.ownBlock≠some O:=by
  rcases h65 with h7|h7<;>rw[h7]
  ·exact dU h.so (by omega)
  ·intro e;injection e with e;omega
 have hO:=h.o.grown (by simp) h63 (hnr _ (by omega));have hne:∀g,bv.ownBlock=some g→v6.ownBlock=some g→False:=by
  intro g e1 e2;rcases h65 with h7|h7
  ·exact h.ne g e1 (h7 ▸ e2)
  ·rw[h7]at e2;injection e2 with e3
   have:=(fC h.bo e1).2;omega
 have hold:=World.ownsRow.kept h.bo h63 (by
  by_cases e:bv.ownBlock=none
  ·exact .inl e
  ·refine .inr (fun e2=>?_);obtain⟨k,hk⟩:=Option.ne_none_iff_exists'.1 e;exact h.ne k hk (e2 ▸ hk))
 have hsz:base≤(w6.setCell ⟨O,1,none⟩ v6).heap.size:=by simp;exact UA h.hb h63.size
 refine⟨v6,w6,hrun,?_,hO,hO.set 1 v6,cE hold (dU h.bo (by omega)),cE (by rw[kB,List.length_append];exact h62) n6,hne,(oE h.b h63 (fun k e=>by have:=(fC h.so e).1;omega)).setCell (p:=⟨O,1,none⟩) hlo v6,fun e he=>((h.k e he).grown (h.kb e he).2.2 h63 (hnr _ (h.kb e he).1)).setOther (h.kb e he).2.1 v6,h.lo,h.hi,hsz,h.kb⟩;rcases h62.2 with ⟨_,h0⟩|⟨gg,c6,_,h6,_⟩
 ·simp at h0
 ·exact⟨gg,_,c6,h6⟩
theorem gX.appB(h:gX w base O ks bv sv ys zs wx)(q:Bd)(g:Nat)(hg:aA wx g (eG q))(jJ:ys.length≤1048576) :
  ∃v6 w6,(Builtin.append_ #[28,28] 28 #[bv,.slice (some ⟨g,0,none⟩) 1 1]).run Tryz.prog wx=.ok v6 w6∧(∃gg l c,v6=.slice (some ⟨gg,0,none⟩) l c)∧aA w6 O [bv,sv]∧gX w base O ks v6 sv (ys++[q]) zs (w6.setCell ⟨O,0,none⟩ v6):=by
 obtain⟨i0,hi,hz0,hz1,hz2⟩:=info_parts Tryz.infoBd;have hOb:=h.hi;have hlo:=h.lo;have hbb:=h.hb;obtain⟨v6,w6,hrun,h62,h63,h64,h65⟩:=run_append_own_at (P:=Tryz.prog) wx base 28 28 48 i0 _ 5 _ Tryz.underlying28 hi hz0 hz1 hz2 rfl (by decide) bv _ _ h.bo ⟨g,0,none⟩ 1 1 (eG q) rfl (fun i u hu=>by rw[rE];exact hg.cell hu) (zH q) (by unfold maxLen;omega) (by omega) h.hb;have hnr:∀X,X < base→some X≠bv.ownBlock:=fun X hX e=>dU h.bo hX e.symm
 have n6:v6.ownBlock≠some O:=by
  rcases h65 with h7|h7<;>rw[h7]
  ·exact dU h.bo (by omega)
  ·intro e;injection e with e;omega
 have hO:=h.o.grown (by simp) h63 (hnr _ (by omega));have hne:∀g,v6.ownBlock=some g→sv.ownBlock=some g→False:=by
  intro g e1 e2;rcases h65 with h7|h7
  ·exact h.ne g (h7 ▸ e1) e2
  ·rw[h7]at e1;injection e1 with e3
   have:=(fC h.so e2).2;omega
 have hold:=World.ownsRow.kept h.so h63 (by
  by_cases e:sv.ownBlock=none
  ·exact .inl e
  ·refine .inr (fun e2=>?_);obtain⟨k,hk⟩:=Option.ne_none_iff_exists'.1 e;exact h.ne k (e2 ▸ hk) hk)
 have hsz:base≤(w6.setCell ⟨O,0,none⟩ v6).heap.size:=by simp;exact UA h.hb h63.size
 refine⟨v6,w6,hrun,?_,hO,hO.set 0 v6,cE (by rw[kB,List.length_append];exact h62) n6,cE hold (dU h.so (by omega)),hne,(oE h.b h63 (fun k e=>by have:=(fC h.bo e).1;omega)).setCell (p:=⟨O,0,none⟩) hlo v6,fun e he=>((h.k e he).grown (h.kb e he).2.2 h63 (hnr _ (h.kb e he).1)).setOther (h.kb e he).2.1 v6,h.lo,h.hi,hsz,h.kb⟩;rcases h62.2 with ⟨_,h0⟩|⟨gg,c6,_,h6,_⟩
 ·simp at h0
 ·exact⟨gg,_,c6,h6⟩
theorem gX.shapes(h:gX w base O ks bv sv ys zs wx):(∃a cap,bv=.slice a ys.length cap∧ys.length≤cap∧eY eG 5 base wx a ys)∧∃a cap,sv=.slice a zs.length cap∧zs.length≤cap∧eY fY 7 base wx a zs :=
 ⟨xB.shape eC (w0:=wx) ⟨h.bo,Below.refl _ _⟩,xB.shape eE (w0:=wx) ⟨h.so,Below.refl _ _⟩⟩
end
end Go.Proofs.YtdkepkaflielhaaGreatDoor
