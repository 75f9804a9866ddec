import Derived.Test.YtdkepkaflielhaaGreatDoorMerged7
import Derived.Great.BuildSlice
set_option linter.unusedVariables false
set_option linter.unusedSimpArgs false
set_option maxRecDepth 100000
set_option maxHeartbeats 8000000
namespace Go.Proofs.YtdkepkaflielhaaGreatDoor
open Go.RowKit Go.PlainAid
theorem qA{w w1:World}{B k:Nat}(xs:List Int){t:TypeId}(hg:(w.alloc (.cells (xs.map (fun x=>Value.int .i64 x)).toArray t)).grownBy w1 (some B))(hB:B < w.heap.size)(hk:k < xs.length):∃r,w1.cell? ⟨w.heap.size,k,none⟩=some (iV r)∧r∈xs :=
 ⟨xs[k],hg.cell (bZ (by simp[hk])) (by simp;omega),UJ hk⟩
def FC(l:Lv):Prop:=(0≤l.udp∧l.udp≤10001)∧(0≤l.echo∧l.echo≤10001)∧(0≤l.opening∧l.opening≤10001)∧(0≤l.opn∧l.opn≤10001)∧(0≤l.closing∧l.closing≤10001)
def mA:List Value:=[iV 0,iV 0,iV 0,iV 0,iV 0]
theorem yC(B:Nat)(a:OA)(len cap:Nat)(size:Int)(w:World)(hl:len≤1048576)(hs:iY w B a len cap size) :
  Calls Tryz.prog 91 #[.pointer (some ⟨B,0,none⟩)] w fun e w'=>∃r,e=.returned (iV r)∧0≤r∧r≤255∧iY w' B a len cap size∧w.grownBy w' (some B):=by
 have D0:Hid (Dr w B a len cap size w):=Dr.start hs;clear hs;go_enter Tryz.func91,Tryz.ntmps91
 go_wp2_with fail
 refine(bS 12 B a len cap size _ (by omega) hl D0.out.src).mono ?_;rintro e w1 ⟨b,rfl,hs1,hg1⟩;have D1:Hid (Dr w B a len cap size w1):=D0.out.draw hs1 hg1;clear hs1 hg1 D0
 cases b with
 | true=>
  have AD1:Hid (Dr w B a len cap size (w1.alloc (.cells #[iV 0,iV 58,iV 47] 2))):=D1.out.alloc _;have hBD1:B < w1.heap.size:=UX D1.out.hB D1.out.le;go_wp2_with fail
  refine(aV 3 B a len cap size _ (by omega) (by omega) hl AD1.out.src).mono ?_;rintro e w3 ⟨r,rfl,r0,r1,hs2,hg2⟩;obtain⟨k,rfl⟩:=UK r0;obtain⟨x,hcell,hx⟩:=qA (k:=k) [0,58,47] hg2 hBD1 (by simp;omega);have r1':(k:Int) < 3:=by omega
  have D3:Hid (Dr w B a len cap size w3):=AD1.out.draw hs2 hg2;have HX:Hid (0≤x∧x≤255):=by simp at hx;unfold Hid;omega
  clear hs2 hg2 r0 r1 AD1 D1 hx;go_wp2_with fail
  go_ret;exact⟨x,rfl,HX.out.1,HX.out.2,D3.out.src,D3.out.grown⟩
 | false=>
  have AD1:Hid (Dr w B a len cap size (w1.alloc (.cells #[iV 6,iV 6,iV 17,iV 1] 2))):=D1.out.alloc _;have hBD1:B < w1.heap.size:=UX D1.out.hB D1.out.le;go_wp2_with fail
  refine(aV 4 B a len cap size _ (by omega) (by omega) hl AD1.out.src).mono ?_;rintro e w3 ⟨r,rfl,r0,r1,hs2,hg2⟩;obtain⟨k,rfl⟩:=UK r0;obtain⟨x,hcell,hx⟩:=qA (k:=k) [6,6,17,1] hg2 hBD1 (by simp;omega);have r1':(k:Int) < 4:=by omega
  have D3:Hid (Dr w B a len cap size w3):=AD1.out.draw hs2 hg2;have HX:Hid (0≤x∧x≤255):=by simp at hx;unfold Hid;omega
  clear hs2 hg2 r0 r1 AD1 D1 hx;go_wp2_with fail
  go_ret;exact⟨x,rfl,HX.out.1,HX.out.2,D3.out.src,D3.out.grown⟩
theorem yA(B:Nat)(a:OA)(len cap:Nat)(size:Int)(w:World)(hl:len≤1048576)(hs:iY w B a len cap size) :
  Calls Tryz.prog 93 #[.pointer (some ⟨B,0,none⟩)] w fun e w'=>∃r,e=.returned (iV r)∧-1≤r∧r≤256∧iY w' B a len cap size∧w.grownBy w' (some B):=by
 have D0:Hid (Dr w B a len cap size w):=Dr.start hs;clear hs;go_enter Tryz.func93,Tryz.ntmps93
 go_wp2_with fail
 refine(bS 12 B a len cap size _ (by omega) hl D0.out.src).mono ?_;rintro e w1 ⟨b,rfl,hs1,hg1⟩;have D1:Hid (Dr w B a len cap size w1):=D0.out.draw hs1 hg1;clear hs1 hg1 D0
 cases b with
 | true=>
  go_wp2_with fail
  refine(aV 256 B a len cap size _ (by omega) (by omega) hl D1.out.src).mono ?_;rintro e w2 ⟨y,rfl,y0,y1,hs1,hg1⟩;have D2:Hid (Dr w B a len cap size w2):=D1.out.draw hs1 hg1;clear hs1 hg1 D1;have AD2:Hid (Dr w B a len cap size (w2.alloc (.cells #[iV (-1),iV 255,iV 256,iV y] 2))):=D2.out.alloc _;have hBD2:B < w2.heap.size:=UX D2.out.hB D2.out.le;go_wp2_with fail
  refine(aV 4 B a len cap size _ (by omega) (by omega) hl AD2.out.src).mono ?_;rintro e w3 ⟨r,rfl,r0,r1,hs2,hg2⟩;obtain⟨k,rfl⟩:=UK r0;obtain⟨x,hcell,hx⟩:=qA (k:=k) [-1,255,256,y] hg2 hBD2 (by simp;omega);have r1':(k:Int) < 4:=by omega
  have D3:Hid (Dr w B a len cap size w3):=AD2.out.draw hs2 hg2;have HX:Hid (-1≤x∧x≤256):=by simp at hx;unfold Hid;omega
  clear hs2 hg2 r0 r1 AD2 D2 hx;go_wp2_with fail
  go_ret;exact⟨x,rfl,HX.out.1,HX.out.2,D3.out.src,D3.out.grown⟩
 | false=>
  have AD1:Hid (Dr w B a len cap size (w1.alloc (.cells #[iV 2,iV 18,iV 16,iV 17,iV 4,iV 1,iV 24] 2))):=D1.out.alloc _;have hBD1:B < w1.heap.size:=UX D1.out.hB D1.out.le;go_wp2_with fail
  refine(aV 7 B a len cap size _ (by omega) (by omega) hl AD1.out.src).mono ?_;rintro e w3 ⟨r,rfl,r0,r1,hs2,hg2⟩;obtain⟨k,rfl⟩:=UK r0;obtain⟨x,hcell,hx⟩:=qA (k:=k) [2,18,16,17,4,1,24] hg2 hBD1 (by simp;omega);have r1':(k:Int) < 7:=by omega
  have D3:Hid (Dr w B a len cap size w3):=AD1.out.draw hs2 hg2;have HX:Hid (-1≤x∧x≤256):=by simp at hx;unfold Hid;omega
  clear hs2 hg2 r0 r1 AD1 D1 hx;go_wp2_with fail
  go_ret;exact⟨x,rfl,HX.out.1,HX.out.2,D3.out.src,D3.out.grown⟩
theorem yB(B:Nat)(a:OA)(len cap:Nat)(size:Int)(w:World)(hl:len≤1048576)(hs:iY w B a len cap size) :
  Calls Tryz.prog 124 #[.pointer (some ⟨B,0,none⟩)] w fun e w'=>∃l,e=.returned (yI l)∧FC l∧iY w' B a len cap size∧w.grownBy w' (some B):=by
 have hBW:B < w.heap.size:=(Dr.start hs).hB;have O0:Hid (aA (w.alloc (.cells mA.toArray 25)) w.heap.size mA):=aA.new w mA _;have D0:Hid (Dr w B a len cap size (w.alloc (.cells mA.toArray 25))):=(Dr.start hs).alloc _;rw[show mA.toArray=#[iV 0,iV 0,iV 0,iV 0,iV 0] from rfl]at O0 D0;clear hs;unfold yI;go_enter Tryz.func124,Tryz.ntmps124
 go_wp2_with fail
 refine(aV 9 B a len cap size _ (by omega) (by omega) hl D0.out.src).mono ?_;rintro e w1 ⟨r1,rfl,lo1,hi1,hs,hg⟩;have D1:Hid (Dr w B a len cap size w1):=D0.out.draw hs hg;have O1:Hid (aA w1 w.heap.size mA):=O0.out.grown (by simp[mA]) hg (by simp;omega);clear hs hg D0 O0;go_wp2_with fail
 refine(aV 9 B a len cap size _ (by omega) (by omega) hl D1.out.src).mono ?_;rintro e w2 ⟨r2,rfl,lo2,hi2,hs,hg⟩;have D2:Hid (Dr w B a len cap size w2):=D1.out.draw hs hg;have O2:Hid (aA w2 w.heap.size mA):=O1.out.grown (by simp[mA]) hg (by simp;omega);clear hs hg D1 O1;go_wp2_with fail
 refine(aV 9 B a len cap size _ (by omega) (by omega) hl D2.out.src).mono ?_;rintro e w3 ⟨r3,rfl,lo3,hi3,hs,hg⟩;have D3:Hid (Dr w B a len cap size w3):=D2.out.draw hs hg;have O3:Hid (aA w3 w.heap.size mA):=O2.out.grown (by simp[mA]) hg (by simp;omega);clear hs hg D2 O2;obtain⟨l0,hl0⟩: ∃l:Lv,l=⟨5+r1,1+r2,4,20+r3,3⟩:=⟨_,rfl⟩;have L4:Hid (aA (w3.alloc (.cells (JB l0).toArray 25)) w3.heap.size (JB l0)):=aA.new w3 (JB l0) _;have D4:Hid (Dr w B a len cap size (w3.alloc (.cells (JB l0).toArray 25))):=D3.out.alloc _;have O4:Hid (aA (w3.alloc (.cells (JB l0).toArray 25)) w.heap.size mA):=O3.out.alloc _;have K0:Hid (FC l0):=by unfold Hid FC;rw[hl0];dsimp only;omega
 have hX:w.heap.size < w3.heap.size:=O3.out.lt (by simp[mA]);rw[show (JB l0).toArray=#[iV (5+r1),iV (1+r2),iV 4,iV (20+r3),iV 3] by rw[hl0];rfl]at L4 D4 O4;clear D3 O3 hl0;go_wp2_with fail
 refine(bS 30 B a len cap size _ (by omega) hl D4.out.src).mono ?_;rintro e w5 ⟨c5,rfl,hs,hg⟩;have D5:Hid (Dr w B a len cap size w5):=D4.out.draw hs hg;have O5:Hid (aA w5 w.heap.size mA):=O4.out.grown (by simp[mA]) hg (by simp;omega);have L5:Hid (aA w5 w3.heap.size (JB l0)):=L4.out.grown (by simp[JB]) hg (by simp;omega);clear hs hg D4 O4 L4 lo1 lo2 lo3 hi1 hi2 hi3;have hXB:w3.heap.size≠B:=by omega
 generalize w3.heap.size=X at *;go_upto_if 15 with fail
 go_cut [] (fun wx=>∃l,FC l∧aA wx X (JB l)∧aA wx w.heap.size mA∧Dr w B a len cap size wx)
 case first=>
  cases c5 with
  | false=>
   go_wp2_with fail
   go_meet;exact⟨l0,K0.out,L5.out,O5.out,D5.out⟩
  | true=>
   have A5:Hid (Dr w B a len cap size (w5.alloc (.cells #[iV 0,iV 10000,iV 10001] 2))):=D5.out.alloc _;have AL:Hid (aA (w5.alloc (.cells #[iV 0,iV 10000,iV 10001] 2)) X (JB l0)):=L5.out.alloc _;have AO:Hid (aA (w5.alloc (.cells #[iV 0,iV 10000,iV 10001] 2)) w.heap.size mA):=O5.out.alloc _;have hB5:B < w5.heap.size:=UX D5.out.hB D5.out.le;go_wp2_with fail
   refine(aV 3 B a len cap size _ (by omega) (by omega) hl A5.out.src).mono ?_;rintro e w6 ⟨r,rfl,r0,r1,hs2,hg2⟩;obtain⟨k,rfl⟩:=UK r0;obtain⟨x,hcell,hx⟩:=qA (k:=k) [0,10000,10001] hg2 hB5 (by simp;omega);have r1':(k:Int) < 3:=by omega
   have D6:Hid (Dr w B a len cap size w6):=A5.out.draw hs2 hg2;have L6:Hid (aA w6 X (JB l0)):=AL.out.grown (by simp[JB]) hg2 (by simp;omega);have O6:Hid (aA w6 w.heap.size mA):=AO.out.grown (by simp[mA]) hg2 (by simp;omega);have K6:Hid (FC { l0 with udp:=x }):=⟨by simp at hx;dsimp only;omega,K0.out.2⟩;have y0:=L6.out.free (j:=0) (by simp[JB]);have x0:=L6.out.cell (j:=0) rfl;have L7:Hid (aA (w6.setCell ⟨X,0,none⟩ (iV x)) X (JB { l0 with udp:=x })):=L6.out.set 0 _;have O7:Hid (aA (w6.setCell ⟨X,0,none⟩ (iV x)) w.heap.size mA):=O6.out.setOther (by omega) _;have D7:Hid (Dr w B a len cap size (w6.setCell ⟨X,0,none⟩ (iV x))):=D6.out.set X 0 _ (by omega);clear hs2 hg2 r0 r1 A5 AL AO L5 O5 D5 hx L6 O6 D6;go_wp2_with fail
   go_meet;exact⟨_,K6.out,L7.out,O7.out,D7.out⟩
 case rest=>
 obtain⟨l,hK,hL,hO,hD⟩:=hcut;have K8:Hid (FC l):=hK;obtain⟨k0,k1,k2,k3,k4⟩:=hL.c5;obtain⟨z0,z1,z2,z3,z4⟩:=hO.c5;have zf0:=hO.free (j:=0) (by simp[mA]);have zf1:=hO.free (j:=1) (by simp[mA]);have zf2:=hO.free (j:=2) (by simp[mA]);have zf3:=hO.free (j:=3) (by simp[mA]);have zf4:=hO.free (j:=4) (by simp[mA]);have PF:Hid (∀v0 v1 v2 v3 v4,Dr w B a len cap size ((sW (sW (sW (sW wc w.heap.size 0 v0) w.heap.size 1 v1) w.heap.size 2 v2) w.heap.size 3 v3).setCell ⟨w.heap.size,4,none⟩ v4)):=fun v0 v1 v2 v3 v4=>((((hD.set _ 0 v0 lR).set _ 1 v1 lR).set _ 2 v2 lR).set _ 3 v3 lR).set _ 4 v4 lR
 clear hK hL hO hD L5 O5 D5 K0;go_wp2_with fail
 refine VB (v:=.agg #[iV l.udp,iV l.echo,iV l.opening,iV l.opn,iV l.closing]) (by simp[results,Tryz.results124,go_sem,z0,z1,z2,z3,z4]) rfl ⟨l,rfl,K8.out,(PF.out _ _ _ _ _).src,(PF.out _ _ _ _ _).grown⟩
end Go.Proofs.YtdkepkaflielhaaGreatDoor
