import Derived.Test.YtdkepkaflielhaaGreatDoorMerged5
import Derived.Test.YtdkepkaflielhaaGreatDoorMerged4
set_option linter.unusedVariables false
set_option linter.unusedSimpArgs false
set_option maxRecDepth 100000
set_option maxHeartbeats 8000000
namespace Go.Proofs.YtdkepkaflielhaaGreatDoor
open Go.RowKit Go.PlainAid
theorem dW(a b:BA)(i:Nat):bt (a++b) i=if i < a.size then bt a i else bt b (i-a.size):=by
 have hs:(a++b).size=a.size+b.size:=UQ;by_cases h:i < a.size
 ·rw[if_pos h];unfold bt;rw[dif_pos (by omega),dif_pos h,ByteArray.getElem_append_left h]
 ·rw[if_neg h];unfold bt;by_cases h2:i < (a++b).size
  ·rw[dif_pos h2,dif_pos (by omega),ByteArray.getElem_append_right (by omega)]
  ·rw[dif_neg h2,dif_neg (by omega)]
theorem fB(a:BA)(s e i:Nat)(he:e≤a.size):bt (a.extract s e) i=if s+i < e then bt a (s+i) else 0:=by
 have hs:(a.extract s e).size=min e a.size-s:=UR;by_cases h:s+i < e
 ·rw[if_pos h];unfold bt;rw[dif_pos (by omega),dif_pos (by omega),ByteArray.getElem_extract]
 ·rw[if_neg h];unfold bt;rw[dif_neg (by omega)]
theorem aP(n:Int):(aR n).size=2:=rfl
theorem FP(n:Int)(h0:0≤n)(h1:n≤65535):bt (aR n) 0=n / 256∧bt (aR n) 1=n % 256:=by
 constructor
 ·unfold bt;rw[dif_pos (by rw[aP];omega)];exact fM _ (by omega) (by omega)
 ·unfold bt;rw[dif_pos (by rw[aP];omega)];exact fM _ (by omega) (by omega)
theorem oW{f g:Nat→Int}:∀(k:Nat),(∀i,i < 2*k→f i=g i)→gM f k=gM g k
 | 0,_=>rfl
 | k+1,h=>by
  unfold gM;rw[oW k (fun i hi=>h i (by omega))];unfold aM;rw[h (2*k) (by omega),h (2*k+1) (by omega)]
section
variable {t:BA} {j K:Nat} {n:Int}
end
theorem lM(a b:Int):∃z,gE a b=a+b+65535*z:=by
 unfold gE;split
 ·exact⟨-1,by omega⟩
 ·exact⟨0,by omega⟩
theorem qU{f g:Nat→Int}{j:Nat}(h:∀i,(i < 2*j∨2*j+2≤i)→f i=g i):∀k,j < k→∃z,gM g k=gM f k-aM f (2*j)+aM g (2*j)+65535*z
 | 0,h0=>by omega
 | k+1,hk=>by
  obtain⟨z1,e1⟩:=lM (gM f k) (aM f (2*k));obtain⟨z2,e2⟩:=lM (gM g k) (aM g (2*k));unfold gM;by_cases hjk:j=k
  ·subst hjk;have:=oW (f:=f) (g:=g) j (fun i hi=>h i (.inl hi));exact⟨z2-z1,by rw[e1,e2];omega⟩
  ·obtain⟨z,e⟩:=qU h k (by omega);have e3:aM f (2*k)=aM g (2*k):=by unfold aM;rw[h _ (.inr (by omega)),h _ (.inr (by omega))]
   exact⟨z2-z1+z,by rw[e1,e2];omega⟩
structure P4 where
 tos:Int
 id:Int
 whole:Bool
 more:Bool
 off:Int
 ttl:Int
 VF:Int
 src:BA
 dst:BA
 opts:BA
 data:BA
structure P6 where
 cls:Int
 flow:Int
 next:Int
 hops:Int
 src:BA
 dst:BA
 piece:Bool
 more:Bool
 off:Int
 id:Int
 data:BA
def kL(p:P4):Value:=.agg (eP p.tos p.id p.whole p.more p.off p.ttl p.VF p.src p.dst p.opts p.data).toArray
def aO(n lo hi:Int):Bool:=decide (lo≤n)&&decide (n≤hi)
theorem eK{n lo hi:Int}(h:aO n lo hi=true):lo≤n∧n≤hi:=by simpa[aO] using h
def KZ(p:P4):Bool:=aO p.tos 0 255&&aO p.ttl 0 255&&aO p.VF 0 255&&aO p.id 0 65535&&aO p.off 0 8191&&decide (p.src.size=4)&&decide (p.dst.size=4)
def LI(p:P4):Bool:=decide (p.opts.size≤40)&&decide (p.opts.size % 4=0)&&decide (p.data.size≤1400)&&!(p.more&&!decide (p.data.size % 8=0))&&decide (8*p.off+p.data.size≤65515)
def RM(p:P4):Bool:=!p.whole||(!p.more&&decide (p.off=0))
def jB(p:P4):Bool:=KZ p&&LI p&&RM p
theorem tT{p:P4}(h:KZ p=true):(0≤p.tos∧p.tos≤255)∧(0≤p.ttl∧p.ttl≤255)∧(0≤p.VF∧p.VF≤255)∧(0≤p.id∧p.id≤65535)∧(0≤p.off∧p.off≤8191)∧p.src.size=4∧p.dst.size=4:=by
 unfold KZ at h;simp only[UB,UF]at h;obtain⟨⟨⟨⟨⟨⟨h1,h2⟩,h3⟩,h4⟩,h5⟩,h6⟩,h7⟩:=h;exact⟨eK h1,eK h2,eK h3,eK h4,eK h5,h6,h7⟩
theorem tU{p:P4}(h:LI p=true):p.opts.size≤40∧p.opts.size % 4=0∧p.data.size≤1400∧(p.more=true→p.data.size % 8=0)∧8*p.off+p.data.size≤65515:=by
 unfold LI at h;simp only[UB,Bool.not_eq_true',UF]at h;obtain⟨⟨⟨⟨h1,h2⟩,h3⟩,h4⟩,h5⟩:=h;refine⟨h1,h2,h3,fun hm=>?_,h5⟩;rw[hm,UP,Bool.not_eq_false',UF]at h4;exact h4
def kG(x y:Int):BA:=⟨#[UInt8.ofNat x.toNat,UInt8.ofNat y.toNat]⟩
theorem nB(x y:Int):(kG x y).size=2:=rfl
theorem MY(x y:Int)(hx:0≤x∧x≤255)(hy:0≤y∧y≤255):bt (kG x y) 0=x∧bt (kG x y) 1=y:=by
 constructor
 ·exact fM x hx.1 hx.2
 ·exact fM y hy.1 hy.2
def jD(p:P4):Int:=20+p.opts.size
def pZ:P4:=⟨0,0,false,false,0,0,0,⟨#[]⟩,⟨#[]⟩,⟨#[]⟩,⟨#[]⟩⟩
def gK:P6:=⟨0,0,0,0,⟨#[]⟩,⟨#[]⟩,false,false,0,0,⟨#[]⟩⟩
abbrev dM(p:P4):List Value := [iV p.tos,iV p.id,.bool p.whole,.bool p.more,iV p.off,iV p.ttl,iV p.VF,.string p.src,.string p.dst,.string p.opts,.string p.data]
structure Bd where
 VF:Int
 inn:BA
 VH:Int
 out:BA
 VI:Int
def gW(p:Bd):Value:=.agg (gB p.VF p.inn p.VH p.out p.VI).toArray
def dP(p:Bd):List Value:=(gB p.VF p.inn p.VH p.out p.VI)
theorem eC(p:Bd):(dP p).length=5:=rfl
instance:Inhabited Bd:=⟨⟨0,⟨#[]⟩,0,⟨#[]⟩,0⟩⟩
structure Ss where
 VF:Int
 inn:BA
 VH:Int
 peer:BA
 VG:Int
 state:Int
 untl:Int
def xL(p:Ss):Value:=.agg (sA p.VF p.inn p.VH p.peer p.VG p.state p.untl).toArray
def fZ(p:Ss):List Value:=(sA p.VF p.inn p.VH p.peer p.VG p.state p.untl)
theorem eD(p:Ss):(fZ p).length=7:=rfl
instance:Inhabited Ss:=⟨⟨0,⟨#[]⟩,0,⟨#[]⟩,0,0,0⟩⟩
structure Tc where
 VF:Int
 VJ:Bool
 addr:BA
 port:Int
 peer:BA
 VG:Int
 VM:Int
def pJ(p:Tc):Value:=.agg (eH p.VF p.VJ p.addr p.port p.peer p.VG p.VM).toArray
abbrev FH(p:Tc):List Value := [iV p.VF,.bool p.VJ,.string p.addr,iV p.port,.string p.peer,iV p.VG,iV p.VM]
abbrev cZ(p:Bd):List Value := [iV p.VF,.string p.inn,iV p.VH,.string p.out,iV p.VI]
abbrev iE(p:Ss):List Value := [iV p.VF,.string p.inn,iV p.VH,.string p.peer,iV p.VG,iV p.state,iV p.untl]
structure Lv where
 udp:Int
 echo:Int
 opening:Int
 opn:Int
 closing:Int
def yI(l:Lv):Value:=.agg #[iV l.udp,iV l.echo,iV l.opening,iV l.opn,iV l.closing]
def JB(l:Lv):List Value:=[iV l.udp,iV l.echo,iV l.opening,iV l.opn,iV l.closing]
def fT(l:Lv):Bool:=aO l.udp 1 10000&&aO l.echo 1 10000&&aO l.opening 1 10000&&aO l.opn 1 10000&&aO l.closing 1 10000
def dF(VF:Int):Bool:=decide (VF=17)||decide (VF=1)
def eE(VM:Int)(m:Int):Bool:=decide (bits .and .i64 VM m≠0)
def bF(VF:Int)(VJ:Bool)(VM:Int):Int :=
 if aO VM 0 255=false then 0 else if dF VF=true then 3
 else if VF=6∧eE VM 2=true∧eE VM 4=false∧eE VM 16=false then (if VJ=true then 1 else 2) else 0
def aY(VF state:Int)(VJ:Bool)(VM:Int):Int :=
 if dF VF=true then 3
 else if VF=6∧aO state 1 7=true∧aO VM 0 255=true then
  if eE VM 4=true then 7
  else if state=1 then (if VJ=false∧eE VM 2=true then 3 else 1)
  else if state=2 then (if VJ=true∧eE VM 2=true then 3 else 2)
  else if state=3 then (if eE VM 1=true then (if VJ=true then 4 else 5) else 3)
  else if state=4 then (if VJ=false∧eE VM 1=true then 6 else 4)
  else if state=5 then (if VJ=true∧eE VM 1=true then 6 else 5)
  else if state=7 then 3 else state
 else 0
def bU(l:Lv)(VF state:Int):Int :=
 if fT l=false then 0
 else if VF=17 then l.udp else if VF=1 then l.echo else if VF=6 then
  (if state=1∨state=2 then l.opening else if state=3∨state=4∨state=5 then l.opn else if state=6∨state=7 then l.closing else 0)
 else 0
end Go.Proofs.YtdkepkaflielhaaGreatDoor
/- SV4: what the specification's l01Is, l01Byte and V4Right answer. -/
namespace Go.Proofs.YtdkepkaflielhaaGreatDoor
open Go.RowKit Go.PlainAid
set_option linter.unusedVariables false
set_option linter.unusedSimpArgs false

theorem fD(n lo hi:Int)(w:World) :
  Cw 40 #[iV n,iV lo,iV hi] w (.bool (aO n lo hi)) := by
 by_cases h1:lo ≤ n
 ·by_cases h2:n ≤ hi
  ·have HV:Hid (aO n lo hi = true) := by unfold Hid aO;simp[h1,h2]
   go_enter Tryz.func40,Tryz.ntmps40
   go_wp2_with fail
   go_ret
   exact⟨aC (by rw[HV.out]),rfl⟩
  ·have HV:Hid (aO n lo hi = false) := by unfold Hid aO;simp[h2]
   go_enter Tryz.func40,Tryz.ntmps40
   go_wp2_with fail
   go_ret
   exact⟨aC (by rw[HV.out]),rfl⟩
 ·have HV:Hid (aO n lo hi = false) := by unfold Hid aO;simp[h1]
  have h1':n < lo := by omega
  go_enter Tryz.func40,Tryz.ntmps40
  go_wp2_with fail
  go_ret
  exact⟨aC (by rw[HV.out]),rfl⟩

theorem iT(n:Int)(w:World) :
  Cw 38 #[iV n] w (.bool (aO n 0 255)) := by
 have HC:Hid (∀W,Cw 40 #[iV n,iV 0,iV 255] W (.bool (aO n 0 255))) := fun W=>fD n 0 255 W
 generalize aO n 0 255 = b at *
 go_enter Tryz.func38,Tryz.ntmps38
 go_wp2_with fail
 refine(HC.out _).mono ?_
 rintro e w2 ⟨rfl,rfl⟩
 go_wp2_with fail
 go_ret
 exact⟨rfl,rfl⟩

set_option maxRecDepth 100000 in
set_option maxHeartbeats 2000000 in
theorem vM(p:P4)(w:World)(h1:p.src.size ≤ 1048576)(h2:p.dst.size ≤ 1048576)(h3:p.opts.size ≤ 1048576)(h4:p.data.size ≤ 1048576) :
  Cb 14 #[kL p] w (.bool (jB p)) := by
 have HB1:Hid (∀W,Cw 38 #[iV p.tos] W (.bool (aO p.tos 0 255))) := fun W=>iT p.tos W
 have HB2:Hid (∀W,Cw 38 #[iV p.ttl] W (.bool (aO p.ttl 0 255))) := fun W=>iT p.ttl W
 have HB3:Hid (∀W,Cw 38 #[iV p.VF] W (.bool (aO p.VF 0 255))) := fun W=>iT p.VF W
 have HB4:Hid (∀W,Cw 39 #[iV p.id] W (.bool (aO p.id 0 65535))) := fun W=>gL p.id W
 have HB5:Hid (∀W,Cw 40 #[iV p.off,iV 0,iV 8191] W (.bool (aO p.off 0 8191))) := fun W=>fD p.off 0 8191 W
 have HO:Hid (aO p.off 0 8191 = true → 0 ≤ p.off ∧ p.off ≤ 8191) := fun h=>eK h
 have HA:Hid (KZ p = (aO p.tos 0 255 && aO p.ttl 0 255 && aO p.VF 0 255 && aO p.id 0 65535 && aO p.off 0 8191 && decide (p.src.size = 4) && decide (p.dst.size = 4))) := rfl
 have HF:Hid (KZ p = false → jB p = false) := fun h=>by unfold jB;rw[h];rfl
 have HF2:Hid (KZ p = true → LI p = false → jB p = false) := fun h h' =>by unfold jB;rw[h,h'];rfl
 have HF3:Hid (KZ p = true → LI p = true → jB p = RM p) := fun h h' =>by unfold jB;rw[h,h'];rfl
 have HBB:Hid (LI p = (decide (p.opts.size ≤ 40) && decide (p.opts.size % 4 = 0) && decide (p.data.size ≤ 1400) && !(p.more && !decide (p.data.size % 8 = 0)) && decide (8 * p.off + p.data.size ≤ 65515))) := rfl
 have HCC:Hid (RM p = (!p.whole || (!p.more && decide (p.off = 0)))) := rfl
 generalize KZ p = vA at *
 generalize LI p = vB at *
 generalize RM p = vC at *
 generalize jB p = ok at *
 obtain⟨tos,id,whole,more,off,ttl,VF,src,dst,opts,data⟩:= p
 unfold kL
 dsimp only at *
 have HZ:Hid (Below w.heap.size w (w.alloc (.cells #[iV tos,iV id,.bool whole,.bool more,iV off,iV ttl,iV VF,.string src,.string dst,.string opts,.string data] 33))) := bR.alloc lR _
 cases b1:aO tos 0 255 with
 | false=>
  have HV:Hid (ok = false) := HF.out (by rw[HA.out,b1];simp)
  rw[b1]at HB1
  clear b1 HA HF HF2 HF3 HBB HCC HO
  go_enter Tryz.func14,Tryz.ntmps14
  go_wp2_with fail
  refine(HB1.out _).mono ?_
  rintro e w2 ⟨rfl,rfl⟩
  go_wp2_with fail
  go_ret
  exact⟨aC HV.out.symm,HZ.out⟩
 | true=>
  rw[b1]at HB1
  cases b2:aO ttl 0 255 with
  | false=>
   have HV:Hid (ok = false) := HF.out (by rw[HA.out,b2];simp)
   rw[b2]at HB2
   clear b2 HA HF HF2 HF3 HBB HCC HO
   go_enter Tryz.func14,Tryz.ntmps14
   go_wp2_with fail
   refine(HB1.out _).mono ?_
   rintro e w2 ⟨rfl,rfl⟩
   go_wp2_with fail
   refine(HB2.out _).mono ?_
   rintro e w2 ⟨rfl,rfl⟩
   go_wp2_with fail
   go_ret
   exact⟨aC HV.out.symm,HZ.out⟩
  | true=>
   rw[b2]at HB2
   cases b3:aO VF 0 255 with
   | false=>
    have HV:Hid (ok = false) := HF.out (by rw[HA.out,b3];simp)
    rw[b3]at HB3
    clear b3 HA HF HF2 HF3 HBB HCC HO
    go_enter Tryz.func14,Tryz.ntmps14
    go_wp2_with fail
    refine(HB1.out _).mono ?_
    rintro e w2 ⟨rfl,rfl⟩
    go_wp2_with fail
    refine(HB2.out _).mono ?_
    rintro e w2 ⟨rfl,rfl⟩
    go_wp2_with fail
    refine(HB3.out _).mono ?_
    rintro e w2 ⟨rfl,rfl⟩
    go_wp2_with fail
    go_ret
    exact⟨aC HV.out.symm,HZ.out⟩
   | true=>
    rw[b3]at HB3
    cases b4:aO id 0 65535 with
    | false=>
     have HV:Hid (ok = false) := HF.out (by rw[HA.out,b4];simp)
     rw[b4]at HB4
     clear b4 HA HF HF2 HF3 HBB HCC HO
     go_enter Tryz.func14,Tryz.ntmps14
     go_wp2_with fail
     refine(HB1.out _).mono ?_
     rintro e w2 ⟨rfl,rfl⟩
     go_wp2_with fail
     refine(HB2.out _).mono ?_
     rintro e w2 ⟨rfl,rfl⟩
     go_wp2_with fail
     refine(HB3.out _).mono ?_
     rintro e w2 ⟨rfl,rfl⟩
     go_wp2_with fail
     refine(HB4.out _).mono ?_
     rintro e w2 ⟨rfl,rfl⟩
     go_wp2_with fail
     go_ret
     exact⟨aC HV.out.symm,HZ.out⟩
    | true=>
     rw[b4]at HB4
     cases b5:aO off 0 8191 with
     | false=>
      have HV:Hid (ok = false) := HF.out (by rw[HA.out,b5];simp)
      rw[b5]at HB5
      clear b5 HA HF HF2 HF3 HBB HCC HO
      go_enter Tryz.func14,Tryz.ntmps14
      go_wp2_with fail
      refine(HB1.out _).mono ?_
      rintro e w2 ⟨rfl,rfl⟩
      go_wp2_with fail
      refine(HB2.out _).mono ?_
      rintro e w2 ⟨rfl,rfl⟩
      go_wp2_with fail
      refine(HB3.out _).mono ?_
      rintro e w2 ⟨rfl,rfl⟩
      go_wp2_with fail
      refine(HB4.out _).mono ?_
      rintro e w2 ⟨rfl,rfl⟩
      go_wp2_with fail
      refine(HB5.out _).mono ?_
      rintro e w2 ⟨rfl,rfl⟩
      go_wp2_with fail
      go_ret
      exact⟨aC HV.out.symm,HZ.out⟩
     | true=>
      rw[b5]at HB5
      obtain⟨o0,o1⟩:= HO.out b5
      by_cases s1:src.size = 4
      ·have ds1:((src.size:Int) != 4) = false := by simp;omega
       by_cases s2:dst.size = 4
       ·have ds2:((dst.size:Int) != 4) = false := by simp;omega
        have hA:vA = true := by rw[HA.out,b1,b2,b3,b4,b5,UE s1,UE s2];rfl
        have HG2:Hid (vB = false → ok = false) := HF2.out hA
        have HG3:Hid (vB = true → ok = vC) := HF3.out hA
        clear hA HA HF HF2 HF3 HO b1 b2 b3 b4 b5 s1 s2
        by_cases e0:opts.size ≤ 40
        ·have dT0:decide ((40:Int) < (opts.size:Int)) = false := by simp;omega
         by_cases e1:opts.size % 4 = 0
         ·have dT1:(((opts.size:Int) % 4) != 0) = false := by simp;omega
          by_cases e2:data.size ≤ 1400
          ·have dT2:decide ((1400:Int) < (data.size:Int)) = false := by simp;omega
           have em:(more && !decide (data.size % 8 = 0)) = false ∨ (more = true ∧ data.size % 8 ≠ 0) := by cases more <;> simp <;> omega
           rcases em with em|⟨rfl,em⟩
           ·have dm:more = true → (((data.size:Int) % 8) != 0) = false := fun h=>by rw[h]at em;simp at em;simp;omega
            by_cases e9:8 * off + data.size ≤ 65515
            ·have d9:decide ((65515:Int) < 8 * off + (data.size:Int)) = false := by simp;omega
             have HV:Hid (ok = (!whole || (!more && decide (off = 0)))) := by unfold Hid;rw[←HCC.out];exact HG3.out (by rw[HBB.out,em,UE e0,UE e1,UE e2,UE e9];rfl)
             clear HG2 HG3 HBB HCC em
             cases more with
             | false=>
              clear dm
              cases whole with
              | false=>
               go_enter Tryz.func14,Tryz.ntmps14
               go_wp2_with fail
               refine(HB1.out _).mono ?_
               rintro e w2 ⟨rfl,rfl⟩
               go_wp2_with fail
               refine(HB2.out _).mono ?_
               rintro e w2 ⟨rfl,rfl⟩
               go_wp2_with fail
               refine(HB3.out _).mono ?_
               rintro e w2 ⟨rfl,rfl⟩
               go_wp2_with fail
               refine(HB4.out _).mono ?_
               rintro e w2 ⟨rfl,rfl⟩
               go_wp2_with fail
               refine(HB5.out _).mono ?_
               rintro e w2 ⟨rfl,rfl⟩
               go_wp2_with fail
               go_ret
               exact⟨aC (by rw[HV.out];rfl),HZ.out⟩
              | true=>
               go_enter Tryz.func14,Tryz.ntmps14
               go_wp2_with fail
               refine(HB1.out _).mono ?_
               rintro e w2 ⟨rfl,rfl⟩
               go_wp2_with fail
               refine(HB2.out _).mono ?_
               rintro e w2 ⟨rfl,rfl⟩
               go_wp2_with fail
               refine(HB3.out _).mono ?_
               rintro e w2 ⟨rfl,rfl⟩
               go_wp2_with fail
               refine(HB4.out _).mono ?_
               rintro e w2 ⟨rfl,rfl⟩
               go_wp2_with fail
               refine(HB5.out _).mono ?_
               rintro e w2 ⟨rfl,rfl⟩
               go_wp2_with fail
               go_ret
               exact⟨aC (by rw[HV.out];rfl),HZ.out⟩
             | true=>
              have dm := dm rfl
              cases whole with
              | false=>
               go_enter Tryz.func14,Tryz.ntmps14
               go_wp2_with fail
               refine(HB1.out _).mono ?_
               rintro e w2 ⟨rfl,rfl⟩
               go_wp2_with fail
               refine(HB2.out _).mono ?_
               rintro e w2 ⟨rfl,rfl⟩
               go_wp2_with fail
               refine(HB3.out _).mono ?_
               rintro e w2 ⟨rfl,rfl⟩
               go_wp2_with fail
               refine(HB4.out _).mono ?_
               rintro e w2 ⟨rfl,rfl⟩
               go_wp2_with fail
               refine(HB5.out _).mono ?_
               rintro e w2 ⟨rfl,rfl⟩
               go_wp2_with fail
               go_ret
               exact⟨aC (by rw[HV.out];rfl),HZ.out⟩
              | true=>
               go_enter Tryz.func14,Tryz.ntmps14
               go_wp2_with fail
               refine(HB1.out _).mono ?_
               rintro e w2 ⟨rfl,rfl⟩
               go_wp2_with fail
               refine(HB2.out _).mono ?_
               rintro e w2 ⟨rfl,rfl⟩
               go_wp2_with fail
               refine(HB3.out _).mono ?_
               rintro e w2 ⟨rfl,rfl⟩
               go_wp2_with fail
               refine(HB4.out _).mono ?_
               rintro e w2 ⟨rfl,rfl⟩
               go_wp2_with fail
               refine(HB5.out _).mono ?_
               rintro e w2 ⟨rfl,rfl⟩
               go_wp2_with fail
               go_ret
               exact⟨aC (by rw[HV.out];rfl),HZ.out⟩
            ·have HV:Hid (ok = false) := HG2.out (by rw[HBB.out,UD e9];simp)
             have d9:decide ((65515:Int) < 8 * off + (data.size:Int)) = true := by simp;omega
             clear HG2 HG3 HBB HCC
             cases more with
             | false=>
              clear dm
              go_enter Tryz.func14,Tryz.ntmps14
              go_wp2_with fail
              refine(HB1.out _).mono ?_
              rintro e w2 ⟨rfl,rfl⟩
              go_wp2_with fail
              refine(HB2.out _).mono ?_
              rintro e w2 ⟨rfl,rfl⟩
              go_wp2_with fail
              refine(HB3.out _).mono ?_
              rintro e w2 ⟨rfl,rfl⟩
              go_wp2_with fail
              refine(HB4.out _).mono ?_
              rintro e w2 ⟨rfl,rfl⟩
              go_wp2_with fail
              refine(HB5.out _).mono ?_
              rintro e w2 ⟨rfl,rfl⟩
              go_wp2_with fail
              go_ret
              exact⟨aC HV.out.symm,HZ.out⟩
             | true=>
              have dm := dm rfl
              go_enter Tryz.func14,Tryz.ntmps14
              go_wp2_with fail
              refine(HB1.out _).mono ?_
              rintro e w2 ⟨rfl,rfl⟩
              go_wp2_with fail
              refine(HB2.out _).mono ?_
              rintro e w2 ⟨rfl,rfl⟩
              go_wp2_with fail
              refine(HB3.out _).mono ?_
              rintro e w2 ⟨rfl,rfl⟩
              go_wp2_with fail
              refine(HB4.out _).mono ?_
              rintro e w2 ⟨rfl,rfl⟩
              go_wp2_with fail
              refine(HB5.out _).mono ?_
              rintro e w2 ⟨rfl,rfl⟩
              go_wp2_with fail
              go_ret
              exact⟨aC HV.out.symm,HZ.out⟩
           ·have HV:Hid (ok = false) := HG2.out (by rw[HBB.out,UD em];simp)
            have dm:(((data.size:Int) % 8) != 0) = true := by simp;omega
            clear HG2 HG3 HBB HCC
            go_enter Tryz.func14,Tryz.ntmps14
            go_wp2_with fail
            refine(HB1.out _).mono ?_
            rintro e w2 ⟨rfl,rfl⟩
            go_wp2_with fail
            refine(HB2.out _).mono ?_
            rintro e w2 ⟨rfl,rfl⟩
            go_wp2_with fail
            refine(HB3.out _).mono ?_
            rintro e w2 ⟨rfl,rfl⟩
            go_wp2_with fail
            refine(HB4.out _).mono ?_
            rintro e w2 ⟨rfl,rfl⟩
            go_wp2_with fail
            refine(HB5.out _).mono ?_
            rintro e w2 ⟨rfl,rfl⟩
            go_wp2_with fail
            go_ret
            exact⟨aC HV.out.symm,HZ.out⟩
          ·have HV:Hid (ok = false) := HG2.out (by rw[HBB.out,UD e2];simp)
           have dF2:decide ((1400:Int) < (data.size:Int)) = true := by simp;omega
           clear HG2 HG3 HBB HCC
           go_enter Tryz.func14,Tryz.ntmps14
           go_wp2_with fail
           refine(HB1.out _).mono ?_
           rintro e w2 ⟨rfl,rfl⟩
           go_wp2_with fail
           refine(HB2.out _).mono ?_
           rintro e w2 ⟨rfl,rfl⟩
           go_wp2_with fail
           refine(HB3.out _).mono ?_
           rintro e w2 ⟨rfl,rfl⟩
           go_wp2_with fail
           refine(HB4.out _).mono ?_
           rintro e w2 ⟨rfl,rfl⟩
           go_wp2_with fail
           refine(HB5.out _).mono ?_
           rintro e w2 ⟨rfl,rfl⟩
           go_wp2_with fail
           go_ret
           exact⟨aC HV.out.symm,HZ.out⟩
         ·have HV:Hid (ok = false) := HG2.out (by rw[HBB.out,UD e1];simp)
          have dF1:(((opts.size:Int) % 4) != 0) = true := by simp;omega
          clear HG2 HG3 HBB HCC
          go_enter Tryz.func14,Tryz.ntmps14
          go_wp2_with fail
          refine(HB1.out _).mono ?_
          rintro e w2 ⟨rfl,rfl⟩
          go_wp2_with fail
          refine(HB2.out _).mono ?_
          rintro e w2 ⟨rfl,rfl⟩
          go_wp2_with fail
          refine(HB3.out _).mono ?_
          rintro e w2 ⟨rfl,rfl⟩
          go_wp2_with fail
          refine(HB4.out _).mono ?_
          rintro e w2 ⟨rfl,rfl⟩
          go_wp2_with fail
          refine(HB5.out _).mono ?_
          rintro e w2 ⟨rfl,rfl⟩
          go_wp2_with fail
          go_ret
          exact⟨aC HV.out.symm,HZ.out⟩
        ·have HV:Hid (ok = false) := HG2.out (by rw[HBB.out,UD e0];simp)
         have dF0:decide ((40:Int) < (opts.size:Int)) = true := by simp;omega
         clear HG2 HG3 HBB HCC
         go_enter Tryz.func14,Tryz.ntmps14
         go_wp2_with fail
         refine(HB1.out _).mono ?_
         rintro e w2 ⟨rfl,rfl⟩
         go_wp2_with fail
         refine(HB2.out _).mono ?_
         rintro e w2 ⟨rfl,rfl⟩
         go_wp2_with fail
         refine(HB3.out _).mono ?_
         rintro e w2 ⟨rfl,rfl⟩
         go_wp2_with fail
         refine(HB4.out _).mono ?_
         rintro e w2 ⟨rfl,rfl⟩
         go_wp2_with fail
         refine(HB5.out _).mono ?_
         rintro e w2 ⟨rfl,rfl⟩
         go_wp2_with fail
         go_ret
         exact⟨aC HV.out.symm,HZ.out⟩
       ·have HV:Hid (ok = false) := HF.out (by rw[HA.out,UD s2];simp)
        have hd:((dst.size:Int) != 4) = true := by simp;omega
        clear s2 HA HF HF2 HF3 HBB HCC HO
        go_enter Tryz.func14,Tryz.ntmps14
        go_wp2_with fail
        refine(HB1.out _).mono ?_
        rintro e w2 ⟨rfl,rfl⟩
        go_wp2_with fail
        refine(HB2.out _).mono ?_
        rintro e w2 ⟨rfl,rfl⟩
        go_wp2_with fail
        refine(HB3.out _).mono ?_
        rintro e w2 ⟨rfl,rfl⟩
        go_wp2_with fail
        refine(HB4.out _).mono ?_
        rintro e w2 ⟨rfl,rfl⟩
        go_wp2_with fail
        refine(HB5.out _).mono ?_
        rintro e w2 ⟨rfl,rfl⟩
        go_wp2_with fail
        go_ret
        exact⟨aC HV.out.symm,HZ.out⟩
      ·have HV:Hid (ok = false) := HF.out (by rw[HA.out,UD s1];simp)
       have hd:((src.size:Int) != 4) = true := by simp;omega
       clear s1 HA HF HF2 HF3 HBB HCC HO
       go_enter Tryz.func14,Tryz.ntmps14
       go_wp2_with fail
       refine(HB1.out _).mono ?_
       rintro e w2 ⟨rfl,rfl⟩
       go_wp2_with fail
       refine(HB2.out _).mono ?_
       rintro e w2 ⟨rfl,rfl⟩
       go_wp2_with fail
       refine(HB3.out _).mono ?_
       rintro e w2 ⟨rfl,rfl⟩
       go_wp2_with fail
       refine(HB4.out _).mono ?_
       rintro e w2 ⟨rfl,rfl⟩
       go_wp2_with fail
       refine(HB5.out _).mono ?_
       rintro e w2 ⟨rfl,rfl⟩
       go_wp2_with fail
       go_ret
       exact⟨aC HV.out.symm,HZ.out⟩

end Go.Proofs.YtdkepkaflielhaaGreatDoor
namespace Go.Proofs.YtdkepkaflielhaaGreatDoor
open Go.RowKit Go.PlainAid
structure Fl where
 VF:Int
 src:BA
 dst:BA
 sp:Int
 dp:Int
def gF(f:Fl):Value:=.agg (cR f.VF f.src f.dst f.sp f.dp).toArray
def nV(f:Fl)(code:Int):Value:=.agg #[iV f.VF,.string f.src,.string f.dst,iV f.sp,iV f.dp,iV code]
def QR:Fl:=⟨0,⟨#[]⟩,⟨#[]⟩,0,0⟩
def eM(s d:BA):Bool:=cO s&&decide (s.size=d.size)
def aL(p:Int):Bool:=decide (p=1)||decide (p=58)
def cH(p:Int)(n:Nat):Bool:=decide (p=6)||decide (p=17)||(decide (p=1)&&decide (n=4))||(decide (p=58)&&decide (n=16))
def dR(f:Fl):Bool:=eM f.src f.dst&&cH f.VF f.src.size&&jS f.sp&&jS f.dp&&(!aL f.VF||decide (f.sp=f.dp))
theorem kT{s d:BA}(h:eM s d=true):(s.size=4∨s.size=16)∧d.size=s.size:=by
 unfold eM at h;rw[UB,UF]at h;exact⟨pM h.1,h.2.symm⟩
def gC(p:Int)(t:BA):Bool:=(decide (p=6)&&(decide (t.size < 20)||decide (bt t 12 / 16 < 5)||decide ((t.size:Int) < 4*(bt t 12 / 16))))||decide (t.size < 8)
def iN(p:Int):Int:=if p=58 then 128 else 8
def jV(p:Int):Int:=if p=58 then 129 else 0
def aS(n:Nat)(p:Int)(t:BA):Int :=
 if cH p n=false then 11
 else if gC p t=true then 4
 else if aL p=true then (if (bt t 0≠iN p∧bt t 0≠jV p)∨bt t 1≠0 then 11 else 0)
 else 0
def aI(s d:BA)(p:Int)(t:BA):Fl :=
 if aS s.size p t=0 then (if aL p=true then ⟨p,s,d,aM (bt t) 4,aM (bt t) 4⟩ else ⟨p,s,d,aM (bt t) 0,aM (bt t) 2⟩)
 else ⟨p,s,d,0,0⟩
def aZ(s d:BA)(p:Int)(t:BA):Int :=
 if 20000 < t.size∨20000 < s.size∨20000 < d.size then 2 else if eM s d=false then 1 else aS s.size p t
def bM(s d:BA)(p:Int)(t:BA):Fl:=if aZ s d p t=0 then aI s d p t else QR
def pB(x y:Int):BA:=⟨#[UInt8.ofNat x.toNat,0,0,UInt8.ofNat y.toNat]⟩
theorem wV(x y:Int):(pB x y).size=4:=rfl
def aQ(s d:BA)(p:Int)(n:Nat):BA :=
 if p=1∧s.size=4 then ⟨#[]⟩
 else if s.size=4 then s++d++kG 0 p++aR (n:Int)
 else s++d++aR ((n:Int) / 65536)++aR ((n:Int) % 65536)++pB 0 p
def OP(s d:BA)(p:Int)(t:BA):Int:=bN (aQ s d p t.size++t)
def SM(s d:BA)(p:Int)(t:BA):Bool:=decide (t.size≤20000)&&decide (s.size≤20000)&&decide (d.size≤20000)&&eM s d&&aO p 0 255
def sC(s d:BA)(p:Int)(t:BA):Bool:=SM s d p t&&(decide (OP s d p t=65535)||(decide (p=17)&&decide (s.size=4)&&decide (8≤t.size)&&decide (aM (bt t) 6=0)))
theorem mI(s d:BA)(p:Int)(n:Nat)(hs:s.size≤16)(hd:d.size≤16):(aQ s d p n).size≤40:=by
 unfold aQ;split
 ·exact VC _
 ·split
  ·simp only[UQ,nB,aP];omega
  ·simp only[UQ,aP,wV];omega
def eG(t:BA)(k:Nat)(u:BA):BA:=t.extract 0 k++u++t.extract (k+u.size) t.size
theorem eR{t u:BA}{k:Nat}(h:k+u.size≤t.size):(eG t k u).size=t.size:=by
 unfold eG;simp only[UQ,UR];omega
def bI(p:Int):Nat:=if p=6 then 16 else if p=17 then 6 else 2
def eI(f:Fl)(t:BA):BA:=(if aL f.VF=true then t.extract 0 2++t.extract 4 6 else t.extract 0 4)++aQ f.src f.dst f.VF t.size
def RX(b:Int):Int:=if b=8 then 128 else if b=0 then 129 else if b=128 then 8 else 0
def lK(f g:Fl)(t:BA):Int:=if f.VF≠g.VF then RX (bt t 0) else bt t 0
def lP(x:Int):BA:=⟨#[UInt8.ofNat x.toNat]⟩
def bX(f g:Fl)(t:BA):BA :=
 if aL f.VF=true then eG (eG t 0 (lP (lK f g t))) 4 (aR g.sp) else eG t 0 (aR g.sp++aR g.dp)
def dB(f g:Fl)(t:BA):Int :=
 let n:=65535-gE (gE (65535-aM (bt t) (bI f.VF)) (65535-bN (eI f t))) (bN (eI g (bX f g t)))
 if n=0 then 65535 else n
def fQ(f:Fl)(t:BA):Bool:=decide (f.VF=17)&&decide (aM (bt t) (bI f.VF)=0)&&decide (f.src.size=4)
def kZ(f g:Fl)(t:BA):Bool:=dR f&&dR g&&(decide (f.VF=g.VF)||(aL f.VF&&aL g.VF))&&decide (aS f.src.size f.VF t=0)&&decide ((aI f.src f.dst f.VF t).sp=f.sp)&&decide ((aI f.src f.dst f.VF t).dp=f.dp)
def gO(f g:Fl)(t:BA):Int :=
 if 20000 < t.size then 2 else if kZ f g t=false then 1 else if fQ f t=true∧g.src.size=16 then 5 else 0
def fJ(f g:Fl)(t:BA):BA :=
 if gO f g t=0 then (if fQ f t=true then bX f g t else eG (bX f g t) (bI f.VF) (aR (dB f g t))) else ⟨#[]⟩
def iS(t:BA)(code:Int):Value:=.agg #[.string t,iV code]
def kJ(t:BA):Int:=if 20000 < t.size∨t.size < 20 then 0 else bt t 13
abbrev gH(p:Fl):List Value := [iV p.VF,.string p.src,.string p.dst,iV p.sp,iV p.dp]
open Go.ChangeShapes Go.WideShapes
structure TE(w:World)(B:Nat)(p:P4):Prop where
 c0:w.cell? ⟨B,0,none⟩=some (iV p.tos)
 c1:w.cell? ⟨B,1,none⟩=some (iV p.id)
 c2:w.cell? ⟨B,2,none⟩=some (.bool p.whole)
 c3:w.cell? ⟨B,3,none⟩=some (.bool p.more)
 c4:w.cell? ⟨B,4,none⟩=some (iV p.off)
 c5:w.cell? ⟨B,5,none⟩=some (iV p.ttl)
 c6:w.cell? ⟨B,6,none⟩=some (iV p.VF)
 c7:w.cell? ⟨B,7,none⟩=some (.string p.src)
 c8:w.cell? ⟨B,8,none⟩=some (.string p.dst)
 c9:w.cell? ⟨B,9,none⟩=some (.string p.opts)
 c10:w.cell? ⟨B,10,none⟩=some (.string p.data)
structure TG(w:World)(B:Nat)(p:P6):Prop where
 c0:w.cell? ⟨B,0,none⟩=some (iV p.cls)
 c1:w.cell? ⟨B,1,none⟩=some (iV p.flow)
 c2:w.cell? ⟨B,2,none⟩=some (iV p.next)
 c3:w.cell? ⟨B,3,none⟩=some (iV p.hops)
 c4:w.cell? ⟨B,4,none⟩=some (.string p.src)
 c5:w.cell? ⟨B,5,none⟩=some (.string p.dst)
 c6:w.cell? ⟨B,6,none⟩=some (.bool p.piece)
 c7:w.cell? ⟨B,7,none⟩=some (.bool p.more)
 c8:w.cell? ⟨B,8,none⟩=some (iV p.off)
 c9:w.cell? ⟨B,9,none⟩=some (iV p.id)
 c10:w.cell? ⟨B,10,none⟩=some (.string p.data)
structure TH(w:World)(B b cap:Nat)(t:BA)(k:Nat):Prop where
 c0:w.cell? ⟨B,0,none⟩=some (.slice (some ⟨b,0,none⟩) t.size cap)
 f0:w.frozen? ⟨B,0,none⟩=false
 c1:w.cell? ⟨B,1,none⟩=some (iV k)
 f1:w.frozen? ⟨B,1,none⟩=false
 bs:∀i,i < t.size→w.cell? ⟨b,i,none⟩=some (.int .u8 (bt t i))
 ne:b≠B
 lt:b < w.heap.size
 cp:t.size≤cap
theorem OO{s:BA}{j:Nat}(h:j < s.data.toList.length):(s.data.toList[j].toNat:Int)=bt s j:=by
 have h':j < s.size:=by rw[Array.length_toList]at h;exact h
 unfold bt;rw[dif_pos h',ByteArray.getElem_eq_getElem_data];simp
theorem RY(a b:BA):(a.toList==b.toList)=decide (a=b):=by
 by_cases h:a=b
 ·subst h;simp
 ·rw[UD h];have:a.toList≠b.toList:=fun e=>h (by
   rw[ByteArray.toList_eq,ByteArray.toList_eq]at e;apply ByteArray.ext;exact Array.toList_inj.1 e)
  simpa using this
def tP(q p:P4):Bool:=(q.tos==p.tos)&&((q.id==p.id)&&((q.whole==p.whole)&&((q.more==p.more)&&((q.off==p.off)&&((q.ttl==p.ttl)&&((q.VF==p.VF)&&((q.src.toList==p.src.toList)&&((q.dst.toList==p.dst.toList)&&((q.opts.toList==p.opts.toList)&&((q.data.toList==p.data.toList)))))))))))
theorem IB(q p:P4):tP q p=true↔q=p:=by
 unfold tP;simp only[RY,UB,beq_iff_eq,UF];constructor
 ·intro h;obtain⟨h0,h1,h2,h3,h4,h5,h6,h7,h8,h9,h10⟩:=h
  cases q;cases p;simp_all
 ·rintro rfl;simp
theorem MF(D:Nat)(q p:P4)(W:World):(Op.equalIn (D+2) 33 (.agg (dM q).toArray) (.agg (dM p).toArray)).run Tryz.prog W=.ok (tP q p) W:=by
 have h1:Tryz.prog.underlying 33=some (.struct (Tryz.prog.fieldsOf 33)):=by kernel_rfl
 have h2:Tryz.prog.stoodInHeld 33=false:=by kernel_rfl
 rw[run_equalIn_agg _ _ _ _ _ h1 h2];have h3:(Tryz.prog.fieldsOf 33).toList.length=11:=by kernel_rfl
 have h4 : ((Tryz.prog.fieldsOf 33).toList.map fun f => (f.type, f.offset, f.name == "_")) = [(2, 0, false), (2, 1, false), (4, 2, false), (4, 3, false), (2, 4, false), (2, 5, false), (2, 6, false), (9, 7, false), (9, 8, false), (9, 9, false), (9, 10, false)] := by kernel_rfl
 generalize (Tryz.prog.fieldsOf 33).toList=fs at *;match fs,h3 with
 | [f0,f1,f2,f3,f4,f5,f6,f7,f8,f9,f10],_=>
  simp only[List.map_cons,List.map_nil,List.cons.injEq,Prod.mk.injEq,and_true]at h4;obtain⟨⟨a0,b0,c0⟩,⟨a1,b1,c1⟩,⟨a2,b2,c2⟩,⟨a3,b3,c3⟩,⟨a4,b4,c4⟩,⟨a5,b5,c5⟩,⟨a6,b6,c6⟩,⟨a7,b7,c7⟩,⟨a8,b8,c8⟩,⟨a9,b9,c9⟩,⟨a10,b10,c10⟩⟩:=h4
  have d0 : (f0.name ≠ "_") = True := by simpa using c0
  have q0:∀W,(part 2 (dM q).toArray 0).run Tryz.prog W=.ok (iV q.tos) W:=fun W=>by kernel_rfl
  have p0:∀W,(part 2 (dM p).toArray 0).run Tryz.prog W=.ok (iV p.tos) W:=fun W=>by kernel_rfl
  have d1 : (f1.name ≠ "_") = True := by simpa using c1
  have q1:∀W,(part 2 (dM q).toArray 1).run Tryz.prog W=.ok (iV q.id) W:=fun W=>by kernel_rfl
  have p1:∀W,(part 2 (dM p).toArray 1).run Tryz.prog W=.ok (iV p.id) W:=fun W=>by kernel_rfl
  have d2 : (f2.name ≠ "_") = True := by simpa using c2
  have q2:∀W,(part 4 (dM q).toArray 2).run Tryz.prog W=.ok (.bool q.whole) W:=fun W=>by kernel_rfl
  have p2:∀W,(part 4 (dM p).toArray 2).run Tryz.prog W=.ok (.bool p.whole) W:=fun W=>by kernel_rfl
  have d3 : (f3.name ≠ "_") = True := by simpa using c3
  have q3:∀W,(part 4 (dM q).toArray 3).run Tryz.prog W=.ok (.bool q.more) W:=fun W=>by kernel_rfl
  have p3:∀W,(part 4 (dM p).toArray 3).run Tryz.prog W=.ok (.bool p.more) W:=fun W=>by kernel_rfl
  have d4 : (f4.name ≠ "_") = True := by simpa using c4
  have q4:∀W,(part 2 (dM q).toArray 4).run Tryz.prog W=.ok (iV q.off) W:=fun W=>by kernel_rfl
  have p4:∀W,(part 2 (dM p).toArray 4).run Tryz.prog W=.ok (iV p.off) W:=fun W=>by kernel_rfl
  have d5 : (f5.name ≠ "_") = True := by simpa using c5
  have q5:∀W,(part 2 (dM q).toArray 5).run Tryz.prog W=.ok (iV q.ttl) W:=fun W=>by kernel_rfl
  have p5:∀W,(part 2 (dM p).toArray 5).run Tryz.prog W=.ok (iV p.ttl) W:=fun W=>by kernel_rfl
  have d6 : (f6.name ≠ "_") = True := by simpa using c6
  have q6:∀W,(part 2 (dM q).toArray 6).run Tryz.prog W=.ok (iV q.VF) W:=fun W=>by kernel_rfl
  have p6:∀W,(part 2 (dM p).toArray 6).run Tryz.prog W=.ok (iV p.VF) W:=fun W=>by kernel_rfl
  have d7 : (f7.name ≠ "_") = True := by simpa using c7
  have q7:∀W,(part 9 (dM q).toArray 7).run Tryz.prog W=.ok (.string q.src) W:=fun W=>by kernel_rfl
  have p7:∀W,(part 9 (dM p).toArray 7).run Tryz.prog W=.ok (.string p.src) W:=fun W=>by kernel_rfl
  have d8 : (f8.name ≠ "_") = True := by simpa using c8
  have q8:∀W,(part 9 (dM q).toArray 8).run Tryz.prog W=.ok (.string q.dst) W:=fun W=>by kernel_rfl
  have p8:∀W,(part 9 (dM p).toArray 8).run Tryz.prog W=.ok (.string p.dst) W:=fun W=>by kernel_rfl
  have d9 : (f9.name ≠ "_") = True := by simpa using c9
  have q9:∀W,(part 9 (dM q).toArray 9).run Tryz.prog W=.ok (.string q.opts) W:=fun W=>by kernel_rfl
  have p9:∀W,(part 9 (dM p).toArray 9).run Tryz.prog W=.ok (.string p.opts) W:=fun W=>by kernel_rfl
  have d10 : (f10.name ≠ "_") = True := by simpa using c10
  have q10:∀W,(part 9 (dM q).toArray 10).run Tryz.prog W=.ok (.string q.data) W:=fun W=>by kernel_rfl
  have p10:∀W,(part 9 (dM p).toArray 10).run Tryz.prog W=.ok (.string p.data) W:=fun W=>by kernel_rfl
  unfold tP;simp only[Op.eqFields,a0,b0,d0,q0,p0,a1,b1,d1,q1,p1,a2,b2,d2,q2,p2,a3,b3,d3,q3,p3,a4,b4,d4,q4,p4,a5,b5,d5,q5,p5,a6,b6,d6,q6,p6,a7,b7,d7,q7,p7,a8,b8,d8,q8,p8,a9,b9,d9,q9,p9,a10,b10,d10,q10,p10,if_true,Sem.run_bind,Sem.run_ite,Sem.run_pure,Result.andThen_ok,run_equalIn_string _ _ _ _ _ Tryz.underlying9,run_equalIn_int _ _ _ _ _ _ _ Tryz.underlying2,run_equalIn_bool' _ _ _ _ _ Tryz.underlying4];generalize (q.tos==p.tos)=g0;generalize (q.id==p.id)=g1;generalize (q.whole==p.whole)=g2;generalize (q.more==p.more)=g3;generalize (q.off==p.off)=g4;generalize (q.ttl==p.ttl)=g5;generalize (q.VF==p.VF)=g6;generalize (q.src.toList==p.src.toList)=g7;generalize (q.dst.toList==p.dst.toList)=g8;generalize (q.opts.toList==p.opts.toList)=g9;generalize (q.data.toList==p.data.toList)=g10
  cases g0
  ·simp
  simp only[UW,UO,if_false,UP]
  cases g1
  ·simp
  simp only[UW,UO,if_false,UP]
  cases g2
  ·simp
  simp only[UW,UO,if_false,UP]
  cases g3
  ·simp
  simp only[UW,UO,if_false,UP]
  cases g4
  ·simp
  simp only[UW,UO,if_false,UP]
  cases g5
  ·simp
  simp only[UW,UO,if_false,UP]
  cases g6
  ·simp
  simp only[UW,UO,if_false,UP]
  cases g7
  ·simp
  simp only[UW,UO,if_false,UP]
  cases g8
  ·simp
  simp only[UW,UO,if_false,UP]
  cases g9
  ·simp
  simp only[UW,UO,if_false,UP]
  cases g10<;>simp
theorem MU(q p:P4)(W:World):(binOp .neq 33 (.agg (dM q).toArray) (.agg (dM p).toArray)).run Tryz.prog W=.ok (.bool (!tP q p)) W:=by
 rw[run_neq_struct,MF 9998 q p W];rfl
end Go.Proofs.YtdkepkaflielhaaGreatDoor
