import Derived.OpenShut
import Derived.Test.YtdkepkaflielhaaGreatDoorMerged6
set_option linter.unusedVariables false
set_option linter.unusedSimpArgs false
set_option maxRecDepth 100000
set_option maxHeartbeats 8000000
namespace Go.Proofs.YtdkepkaflielhaaGreatDoor
open Go.RowKit
structure mL(w:World)(a:OA)(len:Nat)(B:Nat):Prop where
 get:∀i,i < len→∃b off,a=some ⟨b,off,none⟩∧b < B∧∃x:Int,0≤x∧x≤255∧w.cell? ⟨b,off+i,none⟩=some (.int .u8 x)
theorem mL.kept{w w':World}{a:OA}{len B:Nat}{row:Option Nat}(h:mL w a len B)(hg:w.grownBy w' row)(hr:∀k,row=some k→B≤k):mL w' a len B :=
 ⟨fun i hi=>by
  obtain⟨b,off,e,hb,x,h0,h1,hc⟩:=h.get i hi;exact⟨b,off,e,hb,x,h0,h1,hg.cell hc (fun e=>by have:=hr b e.symm;omega)⟩⟩
theorem mL.mono{w:World}{a:OA}{len B B':Nat}(h:mL w a len B)(hB:B≤B'):mL w a len B' :=
 ⟨fun i hi=>by
  obtain⟨b,off,e,hb,r⟩:=h.get i hi;exact⟨b,off,e,by omega,r⟩⟩
structure iC(w:World)(B:Nat)(a:OA)(len cap:Nat)(at1:Nat)(mix size:Int):Prop where
 cb:w.cell? ⟨B,0,none⟩=some (.slice a len cap)
 cat:w.cell? ⟨B,1,none⟩=some (iV at1)
 cmix:w.cell? ⟨B,2,none⟩=some (.int .u64 mix)
 csize:w.cell? ⟨B,3,none⟩=some (iV size)
 f1:w.frozen? ⟨B,1,none⟩=false
 f2:w.frozen? ⟨B,2,none⟩=false
 f3:w.frozen? ⟨B,3,none⟩=false
 low:at1≤len
 m0:0≤mix
 m1:mix≤18446744073709551615
section
variable {w w':World} {B:Nat} {a:OA} {len cap at1:Nat} {mix size:Int}
theorem iC.drew(h:iC w B a len cap at1 mix size):iC w.drew B a len cap at1 mix size:=⟨h.cb,h.cat,h.cmix,h.csize,h.f1,h.f2,h.f3,h.low,h.m0,h.m1⟩
theorem iC.setAt(h:iC w B a len cap at1 mix size)(k:Nat)(hk:k≤len)(v:Value)(hv:v=iV k):iC (w.setCell ⟨B,1,none⟩ v) B a len cap k mix size:=by
 subst hv;exact⟨(World.cell?_setCell_other _ _ _ _ (by simp)).trans h.cb,World.cell?_setCell_same _ _ _ h.cat,(World.cell?_setCell_other _ _ _ _ (by simp)).trans h.cmix,(World.cell?_setCell_other _ _ _ _ (by simp)).trans h.csize,
  by rw[World.frozen?_setCell];exact h.f1,by rw[World.frozen?_setCell];exact h.f2,by rw[World.frozen?_setCell];exact h.f3,hk,h.m0,h.m1⟩
theorem iC.setMix(h:iC w B a len cap at1 mix size)(m:Int)(hm:0≤m)(hm':m≤18446744073709551615):iC (w.setCell ⟨B,2,none⟩ (.int .u64 m)) B a len cap at1 m size :=
 ⟨(World.cell?_setCell_other _ _ _ _ (by simp)).trans h.cb,(World.cell?_setCell_other _ _ _ _ (by simp)).trans h.cat,World.cell?_setCell_same _ _ _ h.cmix,(World.cell?_setCell_other _ _ _ _ (by simp)).trans h.csize,
  by rw[World.frozen?_setCell];exact h.f1,by rw[World.frozen?_setCell];exact h.f2,by rw[World.frozen?_setCell];exact h.f3,h.low,hm,hm'⟩
theorem iC.setSize(h:iC w B a len cap at1 mix size)(m:Int):iC (w.setCell ⟨B,3,none⟩ (iV m)) B a len cap at1 mix m :=
 ⟨(World.cell?_setCell_other _ _ _ _ (by simp)).trans h.cb,(World.cell?_setCell_other _ _ _ _ (by simp)).trans h.cat,(World.cell?_setCell_other _ _ _ _ (by simp)).trans h.cmix,World.cell?_setCell_same _ _ _ h.csize,
  by rw[World.frozen?_setCell];exact h.f1,by rw[World.frozen?_setCell];exact h.f2,by rw[World.frozen?_setCell];exact h.f3,h.low,h.m0,h.m1⟩
theorem iC.kept{row:Option Nat}(h:iC w B a len cap at1 mix size)(hg:w.grownBy w' row)(hr:some B≠row):iC w' B a len cap at1 mix size:=by
 have hlt:B < w.heap.size:=UH w _ h.cb;have hb:=hg.block B hlt hr;exact⟨hg.cell h.cb hr,hg.cell h.cat hr,hg.cell h.cmix hr,hg.cell h.csize hr,(World.frozen?_of_block (a:=⟨B,1,none⟩) hb).trans h.f1,(World.frozen?_of_block (a:=⟨B,2,none⟩) hb).trans h.f2,(World.frozen?_of_block (a:=⟨B,3,none⟩) hb).trans h.f3,h.low,h.m0,h.m1⟩
end
theorem nY(op:BinOp)(x y:Int):0≤bits op .u64 x y∧bits op .u64 x y≤18446744073709551615:=by
 have h:bits op .u64 x y=IntKind.u64.wrap _:=rfl;rw[h,IntKind.wrap_u64];omega
theorem QR(x most mix:Int)(hm:1 < most)(hm2:most≤9223372036854775807):0≤wrap64 ((x+mix / 1048576) % most)∧wrap64 ((x+mix / 1048576) % most) < most:=by
 have h0:=Int.emod_nonneg (x+mix / 1048576) (show most≠0 by omega);have h1:=Int.emod_lt_of_pos (x+mix / 1048576) (show 0 < most by omega);rw[IntWalk.wrap64_in _ ⟨by omega,by omega⟩];exact⟨h0,h1⟩
def iT(w:World)(B:Nat)(a:OA)(len cap:Nat)(size:Int):Prop:=mL w a len B∧∃at1 mix,iC w B a len cap at1 mix size
theorem iT.kept{w w':World}{B:Nat}{a:OA}{len cap:Nat}{size:Int}{row:Option Nat}(h:iT w B a len cap size)(hg:w.grownBy w' row)(hr:∀k,row=some k→B < k):iT w' B a len cap size:=by
 obtain⟨h1,at1,mix,h2⟩:=h;exact⟨h1.kept hg (fun k e=>Nat.le_of_lt (hr k e)),at1,mix,h2.kept hg (fun e=>by have:=hr B e.symm;omega)⟩
theorem aT(most:Int)(B:Nat)(a:OA)(len cap:Nat)(size:Int)(w:World)(hm:1 < most)(hm2:most≤9223372036854775807)(hl:len≤1048576)(hs:iT w B a len cap size) :
  Calls Tryz.prog 50 #[.pointer (some ⟨B,0,none⟩),iV most] w fun e w'=>∃r,e=.returned (iV r)∧0≤r∧r < most∧iT w' B a len cap size∧w.grownBy w' (some B):=by
 obtain⟨hb,at1,mix,hs⟩:=hs;have HS:Hid (iC w B a len cap at1 mix size):=hs;have HB:Hid (mL w a len B):=hb;obtain⟨c0,c1,c2,c3,f1,f2,f3,low,m0,m1⟩:=hs;clear hb;go_enter Tryz.func50,Tryz.ntmps50
 go_upto_region 4 with fail
 go_cut [17] (fun v wx=>v=.bool (decide (at1 < len))∧wx=w.drew)
 case first=>
  go_region
  all_goals (go_wp2_with fail;go_meet;exact⟨rfl,rfl⟩)
 case rest=>
 obtain⟨rfl,rfl⟩:=hcut;go_upto_if 17 with fail
 go_cut [5] (fun v wx=>∃(x:Int) (at2:Nat),v=.int .u64 x∧0≤x∧x≤255∧iC wx B a len cap at2 mix size∧w.grownBy wx (some B))
 case first=>
  by_cases h:at1 < len
  ·obtain⟨b,off,rfl,hbB,x,x0,x1,cx⟩:=HB.out.get at1 h;have h':(at1:Int) < (len:Int):=by omega
   have hne:¬b=B:=by omega
   go_wp2
   go_region
   all_goals go_wp2
   all_goals go_meet
   all_goals exact⟨x,at1+1,rfl,x0,x1,(HS.out.setAt (at1+1) (by omega) _ (by go_num)).drew.drew,lD (lD (aC (World.grownBy.refl _ _) _))⟩
  ·have h':¬(at1:Int) < (len:Int):=by omega
   go_wp2
   all_goals go_meet
   all_goals exact⟨0,at1,rfl,by omega,by omega,HS.out.drew,lD (World.grownBy.refl _ _)⟩
 case rest=>
 obtain⟨x,at2,rfl,x0,x1,hs2,hg2⟩:=hcut;clear c0 c1 c2 c3 f1 f2 f3 HS low m0 m1;have HS:Hid (iC wc B a len cap at2 mix size):=hs2;have HG:Hid (w.grownBy wc (some B)):=hg2;obtain⟨c0,c1,c2,c3,f1,f2,f3,low,m0,m1⟩:=hs2;clear hg2;go_upto_region 7 with fail
 go_cut [] (fun wx=>∃mix2,iC wx B a len cap at2 mix2 size∧w.grownBy wx (some B))
 case first=>
  go_region
  all_goals (go_wp2_with fail;go_meet;exact⟨_,(HS.out.setMix _ (nY _ _ _).1 (nY _ _ _).2).drew,lD (aC HG.out _)⟩)
 case rest=>
 clear c0 c1 c2 c3 f1 f2 f3 HS HG low m0 m1;obtain⟨mix,hs2,hg2⟩:=hcut;have HS:Hid (iC wc B a len cap at2 mix size):=hs2;have HG:Hid (w.grownBy wc (some B)):=hg2;obtain⟨c0,c1,c2,c3,f1,f2,f3,low,m0,m1⟩:=hs2;clear hg2;go_upto_region 8 with fail
 go_cut [] (fun wx=>∃mix2,iC wx B a len cap at2 mix2 size∧w.grownBy wx (some B))
 case first=>
  go_region
  all_goals (go_wp2_with fail;go_meet;exact⟨_,(HS.out.setMix _ (nY _ _ _).1 (nY _ _ _).2).drew,lD (aC HG.out _)⟩)
 case rest=>
 clear c0 c1 c2 c3 f1 f2 f3 HS HG low m0 m1;obtain⟨mix,hs2,hg2⟩:=hcut;have HS:Hid (iC wc B a len cap at2 mix size):=hs2;have HG:Hid (w.grownBy wc (some B)):=hg2;obtain⟨c0,c1,c2,c3,f1,f2,f3,low,m0,m1⟩:=hs2;clear hg2;go_upto_region 9 with fail
 go_cut [] (fun wx=>∃mix2,iC wx B a len cap at2 mix2 size∧w.grownBy wx (some B))
 case first=>
  go_region
  all_goals (go_wp2_with fail;go_meet;exact⟨_,(HS.out.setMix _ (nY _ _ _).1 (nY _ _ _).2).drew,lD (aC HG.out _)⟩)
 case rest=>
 clear c0 c1 c2 c3 f1 f2 f3 HS HG low m0 m1;obtain⟨mix,hs2,hg2⟩:=hcut;have HS:Hid (iC wc B a len cap at2 mix size):=hs2;have HG:Hid (w.grownBy wc (some B)):=hg2;obtain⟨c0,c1,c2,c3,f1,f2,f3,low,m0,m1⟩:=hs2;clear hg2;have R:=QR x most mix hm hm2;have H0:Hid _:=R.1;have H1:Hid _:=R.2;clear R;go_wp2
 go_ret;exact⟨_,rfl,H0.out,H1.out,⟨HB.out.kept HG.out (by simp),at2,mix,HS.out⟩,HG.out⟩
theorem FR(most:Int)(B:Nat)(w:World)(hm:most≤1) :
  Cw 50 #[.pointer (some ⟨B,0,none⟩),iV most] w (iV 0):=by
 go_enter Tryz.func50,Tryz.ntmps50
 go_wp2
 go_ret;exact⟨rfl,rfl⟩
theorem fE(most:Int)(B:Nat)(a:OA)(len cap:Nat)(size:Int)(w:World)(hm2:most≤9223372036854775807)(hl:len≤1048576)(hs:iT w B a len cap size) :
  Calls Tryz.prog 50 #[.pointer (some ⟨B,0,none⟩),iV most] w fun e w'=>∃r,e=.returned (iV r)∧0≤r∧(r < most∨r=0)∧iT w' B a len cap size∧w.grownBy w' (some B):=by
 by_cases h:1 < most
 ·refine(aT most B a len cap size w h hm2 hl hs).mono ?_;rintro e w' ⟨r,he,h0,h1,h2,h3⟩;exact⟨r,he,h0,.inl h1,h2,h3⟩
 ·refine(FR most B w (by omega)).mono ?_;rintro e w' ⟨he,rfl⟩;exact⟨0,he,by omega,.inr rfl,hs,World.grownBy.refl _ _⟩
theorem bO(most:Int)(B:Nat)(a:OA)(len cap:Nat)(size:Int)(w:World)(hm2:most≤9223372036854775807)(hl:len≤1048576)(hs:iT w B a len cap size) :
  Calls Tryz.prog 49 #[.pointer (some ⟨B,0,none⟩),iV most] w fun e w'=>∃r,e=.returned (.bool r)∧iT w' B a len cap size∧w.grownBy w' (some B):=by
 have HS:Hid (iT w B a len cap size):=hs;clear hs;go_enter Tryz.func49,Tryz.ntmps49
 go_wp2_with (go_at_call 50;refine(fE most B a len cap size _ hm2 hl HS.out).mono ?_;rintro e w' ⟨r,rfl,h0,h1,hs2,hg2⟩)
 go_ret;exact⟨_,rfl,hs2,hg2⟩
theorem EQ(x:Int):0≤IntKind.u64.wrap x∧IntKind.u64.wrap x≤18446744073709551615:=by
 rw[IntKind.wrap_u64];omega
theorem IB(a:OA)(len cap:Nat)(w:World)(hl:len≤1048576)(hb:mL w a len w.heap.size) :
  Calls Tryz.prog 25 #[.slice a len cap] w fun e w'=>e=.returned (.pointer (some ⟨w.heap.size,0,none⟩))∧Below w.heap.size w w'∧∃size,0≤size∧size≤12∧iT w' w.heap.size a len cap size:=by
 have HB:Hid (mL w a len w.heap.size):=hb;clear hb;go_enter Tryz.func25,Tryz.ntmps25
 go_wp2
 go_loopw [4] (fun i wr=>∃k:Nat,k≤len∧i=iV k∧(∃mix,iC wr w.heap.size a len cap 0 mix 0)∧Below w.heap.size w wr) (fun i _=>len-(intOf i).toNat)
 case atStart=>
  exact⟨0,UR _,rfl,⟨88172645463325252,by simp,by simp,by simp,by simp,by simp,by simp,by simp,UR _,by omega,by omega⟩,bR.alloc lR _⟩
 case round=>
  obtain⟨k,hk,rfl,⟨mix,hs⟩,hbel⟩:=hrel;have HS:Hid (iC wr w.heap.size a len cap 0 mix 0):=hs;have HL:Hid (Below w.heap.size w wr):=hbel;obtain⟨c0,c1,c2,c3,f1,f2,f3,low,m0,m1⟩:=hs;clear hbel;by_cases h:k < len∧k < 64
  ·obtain⟨h1,h2⟩:=h;obtain⟨b,off,rfl,hbB,x,x0,x1,cx'⟩:=HB.out.get k h1;have cx:wr.cell? ⟨b,off+k,none⟩=some (.int .u8 x):=(HL.out.cell (p:=⟨b,off+k,none⟩) hbB).trans cx';have hne:¬b=w.heap.size:=by omega
   clear cx';go_wp2
   go_region
   all_goals go_wp2
   all_goals go_roundw
   case rel=>exact⟨k+1,by omega,by go_num,⟨_,(HS.out.setMix _ (EQ _).1 (EQ _).2).drew⟩,(HL.out.setCell lR _).drew⟩
   case measure=>simp[intOf];omega
  ·have HD:Hid (mL wr a len w.heap.size):=HB.out.kept (jD (r:=none) (by exact HL.out)) (by simp);clear HB;by_cases h1:k < len;all_goals
    by_cases h12:12 < (len:Int) / 20
    ·go_wp2
     go_ret;exact⟨rfl,(HL.out.setCell lR _).setCell lR _,12,by omega,by omega,HD.out.kept (aC (aC (World.grownBy.refl _ _) _) _) (by simp),0,mix,(HS.out.setSize _).setSize _⟩
    ·go_wp2
     go_ret;exact⟨rfl,HL.out.setCell lR _,(len:Int) / 20,by omega,by omega,HD.out.kept (aC (World.grownBy.refl _ _) _) (by simp),0,mix,HS.out.setSize _⟩
theorem Tryz.infoB:(Tryz.prog.info? 5).map (fun i=>(i.zero,i.size,i.bytes))=some (some (.int .u8 0),1,1):=by kernel_rfl
def PM(xs:List Int):List UInt8:=xs.map fun x=>UInt8.ofNat x.toNat
theorem NL{w:World}{base:Nat}{xs:List Int}{g cap n:Nat}(hx:∀x∈xs,0≤x∧x≤255)(hn:xs.length=n)
  (h:w.ownsRow base 5 1 (.slice (some ⟨g,0,none⟩) n cap) n (xs.map (Value.int .u8))) :
  (convert 22 9 (.slice (some ⟨g,0,none⟩) n cap)).run Tryz.prog w=.ok (.string ⟨(PM xs).toArray⟩) w:=by
 have hl:(PM xs).length=n:=by simp[PM,hn]
 have:=run_convert_bytes_back (P:=Tryz.prog) w 22 9 5 ⟨g,0,none⟩ cap (PM xs) Tryz.underlying22 Tryz.underlying5 Tryz.underlying9 (by
  intro j hj;have hj':j < xs.length:=by simpa[PM] using hj
  have h1:=h.cellAt j (by omega);have h2:=hx xs[j] (TY hj');have ha:Addr.add ⟨g,0,none⟩ j=⟨g,j,none⟩:=by simp only[Addr.add,TX];split<;>simp_all
  rw[ha,h1];simp only[List.getElem?_map,UJ hj',Option.map_some,PM,List.getElem_map,UInt8.toNat_ofNat'];congr 2;omega)
 rw[hl]at this;exact this
theorem FP{w w1 w2:World}{B len cap k e:Nat}{a:OA}{size r:Int}{v v':Value}{xs:List Int}{o:Obj}(hk:xs.length=k)(hx:∀x∈xs,0≤x∧x≤255)(hr:0≤r∧r≤255)
  (hown1:w1.ownsRow w.heap.size e 1 v k (xs.map (Value.int .u8))) (hB:B < w.heap.size) (_hsz:w.heap.size≤w1.heap.size) (hg:w.grownBy w1 (some B)) (hs:iT w1 B a len cap size)
  (hown2:w2.ownsRow w.heap.size e 1 v' (k+1) (xs.map (Value.int .u8)++[Value.int .u8 r])) (hgrow:(w1.alloc o).grownBy w2 v.ownBlock) (hnil:¬v'=.slice none 0 0) :
  (xs++[r]).length=k+1∧(∀x∈xs++[r],0≤x∧x≤255)∧w2.ownsRow w.heap.size e 1 v' (k+1) ((xs++[r]).map (Value.int .u8))∧v'≠.slice none 0 0∧iT w2 B a len cap size∧w.grownBy w2 (some B):=by
 have hlo:∀q,v.ownBlock=some q→w.heap.size≤q:=fun q hq=>(hown1.lt q hq).1
 refine⟨by simp[hk],?_,by simpa using hown2,hnil,?_,?_⟩
 ·intro x hx';rcases List.mem_append.1 hx' with h|h
  ·exact hx x h
  ·simp at h;subst h;exact hr
 ·exact(hs.kept (World.grownBy_alloc w1 o none) (by simp)).kept hgrow (fun q hq=>by have:=hlo q hq;omega)
 ·have h1:w1.grownBy (w1.alloc o) (some B):=World.grownBy_alloc _ _ _;refine⟨hgrow.os.trans hg.os,hgrow.tape.trans hg.tape,hgrow.output.trans hg.output,UA hg.size (UA h1.size hgrow.size),fun q hq hne=>?_⟩;have hq1:q < w1.heap.size:=UM hq hg.size;rw[hgrow.block q (UM hq1 h1.size) (fun e=>by have:=hlo q e.symm;omega),h1.block q hq1 hne,hg.block q hq hne]
theorem nI(m:Nat)(B:Nat)(a:OA)(len cap:Nat)(size:Int)(w:World)(hm:m≤100000)(hl:len≤1048576)(hs:iT w B a len cap size) :
  Calls Tryz.prog 120 #[.pointer (some ⟨B,0,none⟩),iV m] w fun e w'=>∃s:BA,e=.returned (.string s)∧s.size=m∧iT w' B a len cap size∧w.grownBy w' (some B):=by
 obtain⟨i0,hi,hz0,hz1,hz2⟩:=info_parts Tryz.infoB;have hB:B < w.heap.size:=by obtain⟨_,_,_,h⟩:=hs;exact UH w _ h.cb
 have HS:Hid (iT w B a len cap size):=hs;clear hs;go_enter Tryz.func120,Tryz.ntmps120
 go_wp2
 go_loopw [5,6] (fun v i wr=>∃k:Nat,k≤m∧i=iV k∧∃xs:List Int,xs.length=k∧(∀x∈xs,0≤x∧x≤255)∧wr.ownsRow w.heap.size 5 1 v k (xs.map (Value.int .u8))∧v≠.slice none 0 0∧iT wr B a len cap size∧w.grownBy wr (some B)) (fun _ i _=>m-(intOf i).toNat)
 case atStart=>
  refine⟨0,UR _,rfl,[],rfl,by simp,?_,by simp,HS.out.kept (World.grownBy_alloc _ _ none) (by simp),World.grownBy_alloc _ _ _⟩;exact World.ownsRow_made w #[] 0 lR (by unfold maxLen;omega) rfl
 case round=>
  obtain⟨k,hk,rfl,xs,hxl,hxs,hown,hnn,hsr,hgr⟩:=hrel;have HG:Hid (w.grownBy wr (some B)):=hgr;have HR:Hid (iT wr B a len cap size):=hsr;have HX:Hid (∀x∈xs,0≤x∧x≤255):=hxs;have HN:Hid (u5≠.slice none 0 0):=hnn;have HK:Hid (xs.length=k):=hxl;clear hgr hsr hxs hnn hxl;by_cases hlt:k < m
  ·go_wp2_with fail
   refine(aT 256 B a len cap size _ (by omega) (by omega) hl HR.out).mono ?_;rintro e w1 ⟨r,rfl,r0,r1,hs1,hg1⟩;have hown1:=hown.kept hg1 (QP hown hB);have hsz:w.heap.size≤w1.heap.size:=UA HG.out.size hg1.size;have HG1:Hid (w.grownBy w1 (some B)):=fT HG.out hg1;have HR1:Hid (iT w1 B a len cap size):=hs1;clear hs1 hg1 hown;go_wp2_with (at_builtin;refine wpList_append_own _ rfl (.tmp 13) (.tmp 17) 22 rfl w.heap.size 5 i0 (.int .u8 0) 1 1 Tryz.underlying22 hi hz0 hz1 hz2 rfl (by decide) _ _ _ rfl (hown1.alloc _) ⟨w1.heap.size,0,none⟩ 1 1 [.int .u8 r] rfl rfl ?c1 ?c2 ?c3 ?c4 ?c5 ?_)
   case c1=>
    intro j u hj;match j,hj with
    | 0,hj=>simp at hj;subst hj;simp[Addr.add]
   case c2=>intro u hu;simp at hu;subst hu;rfl
   case c3=>unfold maxLen;omega
   case c4=>omega
   case c5=>simp;omega
   ·intro v' w2 hown2 hgrow hnil;have R:=FP (r:=r) HK.out HX.out (by omega) hown1 hB hsz HG1.out HR1.out hown2 hgrow hnil;clear hown2 hgrow hnil hown1;go_wp2
    go_roundw
    case rel=>exact⟨k+1,by omega,by go_num,xs++[r],R.1,R.2.1,R.2.2.1,R.2.2.2.1,R.2.2.2.2.1,R.2.2.2.2.2⟩
    case measure=>simp[intOf];omega
  ·obtain⟨g,cp,hv,hown'⟩:=KH hown HN.out;have hkm:k=m:=by omega
   subst hkm;subst hv;have hcv:=NL HX.out HK.out hown';clear hown hown';go_wp2
   go_ret;exact⟨⟨(PM xs).toArray⟩,rfl,by have:=HK.out;simp[PM,ByteArray.size,this],HR.out,HG.out⟩
structure xC(w:World)(R n:Nat):Prop where
 get:∀i,i < n→∃x:Int,0≤x∧x≤255∧w.cell? ⟨R,i,none⟩=some (.int .u8 x)∧w.frozen? ⟨R,i,none⟩=false
theorem xC.kept{w w':World}{R n:Nat}{row:Option Nat}(h:xC w R n)(hg:w.grownBy w' row)(hr:some R≠row):xC w' R n :=
 ⟨fun i hi=>by
  obtain⟨x,h0,h1,hc,hf⟩:=h.get i hi;have hlt:=UH w _ hc;exact⟨x,h0,h1,hg.cell hc hr,(World.frozen?_of_block (a:=⟨R,i,none⟩) (hg.block R hlt hr)).trans hf⟩⟩
theorem xC.set{w:World}{R n:Nat}(h:xC w R n)(j:Nat)(x:Int)(h0:0≤x)(h1:x≤255):xC (w.setCell ⟨R,j,none⟩ (.int .u8 x)) R n :=
 ⟨fun i hi=>by
  obtain⟨y,y0,y1,hc,hf⟩:=h.get i hi;by_cases e:i=j
  ·subst e;exact⟨x,h0,h1,World.cell?_setCell_same _ _ _ hc,by rw[World.frozen?_setCell];exact hf⟩
  ·exact⟨y,y0,y1,(World.cell?_setCell_other _ _ _ _ (fun e2=>e (by injection e2 with _ h2;exact h2.symm))).trans hc,by rw[World.frozen?_setCell];exact hf⟩⟩
theorem xC.conv{w:World}{R n cap:Nat}(h:xC w R n):∃s:BA,s.size=n ∧
  (convert 22 9 (.slice (some ⟨R,0,none⟩) n cap)).run Tryz.prog w=.ok (.string s) w:=by
 have hl:∃l:List UInt8,l.length=n∧∀j (hj:j < l.length),w.cell? ⟨R,j,none⟩=some (.int .u8 (l[j].toNat:Int)):=by
  clear cap;induction n with
  | zero=>exact⟨[],rfl,fun j hj=>by simp at hj⟩
  | succ n ih=>
   obtain⟨l,e,hc⟩:=ih ⟨fun i hi=>h.get i (by omega)⟩;obtain⟨x,x0,x1,hx,_⟩:=h.get n (by omega);refine⟨l++[UInt8.ofNat x.toNat],by simp[e],fun j hj=>?_⟩;by_cases hjl:j < l.length
   ·rw[List.getElem_append_left hjl];exact hc j hjl
   ·have hjn:j=n:=by simp at hj;omega
    subst hjn;rw[List.getElem_append_right (by omega)];simp only[e,Nat.sub_self,UO,UInt8.toNat_ofNat'];rw[hx];congr 2;omega
 obtain⟨l,e,hc⟩:=hl;subst e;refine⟨⟨l.toArray⟩,by simp[ByteArray.size],run_convert_bytes_back (P:=Tryz.prog) w 22 9 5 ⟨R,0,none⟩ cap l Tryz.underlying22 Tryz.underlying5 Tryz.underlying9 (fun j hj=>?_)⟩;have ha:Addr.add ⟨R,0,none⟩ j=⟨R,j,none⟩:=by simp only[Addr.add,TX];split<;>simp_all
 rw[ha];exact hc j hj
section
variable {w wx:World} {B R:Nat}
theorem yD{v:Value}{j:Nat}(h:w.grownBy wx (some B))(hR:w.heap.size≤R):w.grownBy (wx.setCell ⟨R,j,none⟩ v) (some B) :=
 ⟨h.os,h.tape,h.output,by rw[World.size_setCell];exact h.size,fun k hk hne=>(Below.heap_setCell wx _ v k (show k≠R by omega)).trans (h.block k hk hne)⟩
theorem aH(wx:World)(R j:Nat)(v:Value):wx.grownBy (wx.setCell ⟨R,j,none⟩ v) (some R):=aC (World.grownBy.refl _ _) v
end
theorem zP(p:BA→Prop)(R n c:Nat)(B:Nat)(a:OA)(len cap:Nat)(size:Int)(w:World)(hn:1≤n)(hn2:n≤1000)(hRB:R≠B)
  (hp:∀i,i < n→∃s,w.cell? ⟨R,i,none⟩=some (.string s)∧p s) (hl:len≤1048576) (hs:iT w B a len cap size) :
  Calls Tryz.prog 127 #[.pointer (some ⟨B,0,none⟩),.slice (some ⟨R,0,none⟩) n c] w fun e w'=>∃s,e=.returned (.string s)∧p s∧iT w' B a len cap size∧w.grownBy w' (some B):=by
 have HS:Hid (iT w B a len cap size):=hs;have HP:Hid (∀i,i < n→∃s,w.cell? ⟨R,i,none⟩=some (.string s)∧p s):=hp;clear hs hp;go_enter Tryz.func127,Tryz.ntmps127
 go_wp2_with fail
 refine(fE n B a len cap size _ (by omega) hl HS.out).mono ?_;rintro e w1 ⟨r,rfl,r0,r1,hs1,hg1⟩;obtain⟨k,rfl⟩:=TZ r0;have hk:k < n:=by omega
 obtain⟨s,hc,hps⟩:=HP.out k hk;have hc1:w1.cell? ⟨R,k,none⟩=some (.string s):=hg1.cell hc (by simpa using hRB);have H1:Hid (iT w1 B a len cap size∧w.grownBy w1 (some B)∧p s):=⟨hs1,hg1,hps⟩;clear hs1 hg1 hps hc r1;go_wp2
 go_ret;exact⟨s,rfl,H1.out.2.2,H1.out.1,H1.out.2.1⟩
theorem SO(w:World):(Instr.makeSlice 22 (iV 16) (iV 16)).run Tryz.prog w=.ok (.slice (some ⟨w.heap.size,0,none⟩) 16 16) (w.alloc (.cells (Array.replicate 16 (.int .u8 0)) 5)):=by kernel_rfl
theorem MY(w:World):xC (w.alloc (.cells (Array.replicate 16 (.int .u8 0)) 5)) w.heap.size 16 :=
 ⟨fun i hi=>⟨0,by omega,by omega,by simp[hi],by simp⟩⟩
theorem xG(B:Nat)(a:OA)(len cap:Nat)(size:Int)(w:World)(hl:len≤1048576)(hs:iT w B a len cap size) :
  Calls Tryz.prog 92 #[.pointer (some ⟨B,0,none⟩),.bool false] w fun e w'=>∃s:BA,e=.returned (.string s)∧s.size=4∧iT w' B a len cap size∧w.grownBy w' (some B):=by
 have hB:B < w.heap.size:=by obtain⟨_,_,_,h⟩:=hs;exact UH w _ h.cb
 have HS:Hid (iT w B a len cap size):=hs;clear hs;go_enter Tryz.func92,Tryz.ntmps92
 go_wp2_with fail
 refine(zP (fun s=>s.size=4) w.heap.size 7 7 B a len cap size _ (by omega) (by omega) (by omega) ?_ hl (HS.out.kept (World.grownBy_alloc _ _ none) (by simp))).mono ?_
 ·intro i hi;match i,hi with
  | 0,_=>exact⟨_,(US w _ _ _ 0).trans rfl,rfl⟩
  | 1,_=>exact⟨_,(US w _ _ _ 1).trans rfl,rfl⟩
  | 2,_=>exact⟨_,(US w _ _ _ 2).trans rfl,rfl⟩
  | 3,_=>exact⟨_,(US w _ _ _ 3).trans rfl,rfl⟩
  | 4,_=>exact⟨_,(US w _ _ _ 4).trans rfl,rfl⟩
  | 5,_=>exact⟨_,(US w _ _ _ 5).trans rfl,rfl⟩
  | 6,_=>exact⟨_,(US w _ _ _ 6).trans rfl,rfl⟩
 ·rintro e w1 ⟨s,rfl,h4,hs1,hg1⟩;have H1:Hid (s.size=4∧iT w1 B a len cap size∧w.grownBy w1 (some B)):=⟨h4,hs1,fT (World.grownBy_alloc _ _ _) hg1⟩;clear h4 hs1 hg1;go_wp2
  go_ret;exact⟨s,rfl,H1.out.1,H1.out.2.1,H1.out.2.2⟩
structure zE(w:World)(B R:Nat)(a:OA)(len cap:Nat)(size:Int)(wx:World):Prop where
 row:xC wx R 16
 src:iT wx B a len cap size
 grown:w.grownBy wx (some B)
 lo:w.heap.size≤R
 hB:B < w.heap.size
section
variable {w wx wy:World} {B R:Nat} {a:OA} {len cap:Nat} {size:Int}
theorem zE.set(h:zE w B R a len cap size wx)(j:Nat)(x:Int)(h0:0≤x)(h1:x≤255):zE w B R a len cap size (wx.setCell ⟨R,j,none⟩ (.int .u8 x)) :=
 ⟨h.row.set j x h0 h1,h.src.kept (aH wx R j _) (fun k e=>by have:=h.lo;have:=h.hB;injection e with e;omega),yD h.grown h.lo,h.lo,h.hB⟩
theorem zE.draw(h:zE w B R a len cap size wx)(hs:iT wy B a len cap size)(hg:wx.grownBy wy (some B)):zE w B R a len cap size wy :=
 ⟨h.row.kept hg (fun e=>by have:=h.lo;have:=h.hB;injection e with e;omega),hs,fT h.grown hg,h.lo,h.hB⟩
theorem zE.fresh(hs:iT wx B a len cap size)(hg:w.grownBy wx (some B))(hB:B < w.heap.size):zE w B wx.heap.size a len cap size (wx.alloc (.cells (Array.replicate 16 (.int .u8 0)) 5)) :=
 ⟨MY wx,hs.kept (World.grownBy_alloc _ _ none) (by simp),fT hg (World.grownBy_alloc _ _ _),hg.size,hB⟩
end
theorem vN(B:Nat)(a:OA)(len cap:Nat)(size:Int)(w:World)(hl:len≤1048576)(hs:iT w B a len cap size) :
  Calls Tryz.prog 92 #[.pointer (some ⟨B,0,none⟩),.bool true] w fun e w'=>∃s:BA,e=.returned (.string s)∧s.size=16∧iT w' B a len cap size∧w.grownBy w' (some B):=by
 have hB:B < w.heap.size:=by obtain⟨_,_,_,h⟩:=hs;exact UH w _ h.cb
 have hmk:=SO;have HT:Hid (zE w B w.heap.size a len cap size (w.alloc (.cells (Array.replicate 16 (.int .u8 0)) 5))):=zE.fresh hs (World.grownBy.refl _ _) hB;clear hs;go_enter Tryz.func92,Tryz.ntmps92
 go_upto_region 4 with fail
 generalize hR:w.heap.size=R at *;generalize w.alloc (.cells (Array.replicate 16 (.int .u8 0)) 5)=W at *;obtain⟨x0,_,_,c0,f0⟩:=HT.out.row.get 0 (by omega);obtain⟨x1,_,_,c1,f1⟩:=HT.out.row.get 1 (by omega);have H2:Hid _:=(HT.out.set 0 32 (by omega) (by omega)).set 1 1 (by omega) (by omega);clear HT;go_wp2_with fail
 refine(aT 4 B a len cap size _ (by omega) (by omega) hl H2.out.src).mono ?_;rintro e w1 ⟨r,rfl,r0,r1,hs1,hg1⟩;have H3:Hid _:=H2.out.draw hs1 hg1;obtain⟨x2,_,_,c2,f2⟩:=H3.out.row.get 15 (by omega);have H4:Hid _:=H3.out.set 15 r r0 (by omega);clear hs1 hg1 H2 c0 c1 f0 f1 H3;go_wp2_with fail
 refine(aT 4 B a len cap size _ (by omega) (by omega) hl H4.out.src).mono ?_;rintro e w2 ⟨q,rfl,q0,q1,hs2,hg2⟩;have H5:Hid (zE w B R a len cap size w2):=H4.out.draw hs2 hg2;clear hs2 hg2 H4 c2 f2;obtain⟨m,rfl⟩:=TZ q0;go_wp2_with fail
 go_loopw [6] (fun c wr=>∃k:Nat,k≤3∧c=iV k∧zE w B R a len cap size wr) (fun c _=>(intOf c).toNat)
 case atStart=>exact⟨m,by omega,rfl,H5.out⟩
 case round=>
  obtain⟨k,hk,rfl,hst⟩:=hrel;have H6:Hid (zE w B R a len cap size wr):=hst;clear hst H5;by_cases h0:k=0
  ·subst h0;go_wp2_with fail
   refine(bO 8 B a len cap size _ (by omega) hl H6.out.src).mono ?_;rintro e w3 ⟨b,rfl,hs3,hg3⟩;have H7:Hid (zE w B R a len cap size w3):=H6.out.draw hs3 hg3;clear hs3 hg3 H6
   cases b
   ·obtain⟨s,hsz,hcv⟩:=H7.out.row.conv (cap:=16)
    have HZ:Hid (s.size=16):=hsz;clear hsz;go_wp2
    go_ret;exact⟨s,rfl,HZ.out,H7.out.src,H7.out.grown⟩
   ·have H8:Hid (zE w B w3.heap.size a len cap size (w3.alloc (.cells (Array.replicate 16 (.int .u8 0)) 5))):=zE.fresh H7.out.src H7.out.grown H7.out.hB;clear H7;go_wp2_with fail
    refine(aT 16 B a len cap size _ (by omega) (by omega) hl H8.out.src).mono ?_;rintro e w5 ⟨u,rfl,u0,u1,hs5,hg5⟩;have H9:Hid (zE w B w3.heap.size a len cap size w5):=H8.out.draw hs5 hg5;clear hs5 hg5 H8;go_wp2_with fail
    refine(aT 2 B a len cap size _ (by omega) (by omega) hl H9.out.src).mono ?_;rintro e w6 ⟨v,rfl,v0,v1,hs6,hg6⟩;have H10:Hid (zE w B w3.heap.size a len cap size w6):=H9.out.draw hs6 hg6;clear hs6 hg6 H9;obtain⟨u,rfl⟩:=TZ u0;obtain⟨x3,_,_,c3,f3⟩:=H10.out.row.get u (by omega);have H11:Hid (zE w B w3.heap.size a len cap size (w6.setCell ⟨w3.heap.size,u,none⟩ (.int .u8 v))):=H10.out.set u v v0 (by omega);clear H10;obtain⟨s,hsz,hcv⟩:=H11.out.row.conv (cap:=16)
    have HZ:Hid (s.size=16):=hsz;clear hsz;go_wp2
    go_ret;exact⟨s,rfl,HZ.out,H11.out.src,H11.out.grown⟩
  ·have h0':(0:Int) < (k:Int):=by omega
   go_wp2_with fail
   refine(aT 16 B a len cap size _ (by omega) (by omega) hl H6.out.src).mono ?_;rintro e w3 ⟨u,rfl,u0,u1,hs3,hg3⟩;have H7:Hid _:=H6.out.draw hs3 hg3;clear hs3 hg3 H6;go_wp2_with fail
   refine(aT 256 B a len cap size _ (by omega) (by omega) hl H7.out.src).mono ?_;rintro e w4 ⟨v,rfl,v0,v1,hs4,hg4⟩;have H8:Hid _:=H7.out.draw hs4 hg4;clear hs4 hg4 H7;obtain⟨u,rfl⟩:=TZ u0;obtain⟨x3,_,_,c3,f3⟩:=H8.out.row.get u (by omega);have H9:Hid _:=H8.out.set u v v0 (by omega);clear H8;go_wp2
   go_roundw
   case rel=>exact⟨k-1,by omega,by go_num,H9.out⟩
   case measure=>simp[intOf];omega
theorem mB(six:Bool)(B:Nat)(a:OA)(len cap:Nat)(size:Int)(w:World)(hl:len≤1048576)(hs:iT w B a len cap size) :
  Calls Tryz.prog 92 #[.pointer (some ⟨B,0,none⟩),.bool six] w fun e w'=>∃s:BA,e=.returned (.string s)∧s.size=(if six then 16 else 4)∧iT w' B a len cap size∧w.grownBy w' (some B):=by
 cases six
 ·exact xG B a len cap size w hl hs
 ·exact vN B a len cap size w hl hs
theorem CK(B:Nat)(a:OA)(len cap:Nat)(size:Int)(w:World)(hl:len≤1048576)(hs:iT w B a len cap size) :
  Calls Tryz.prog 94 #[.pointer (some ⟨B,0,none⟩)] w fun e w'=>∃s:BA,e=.returned (.string s)∧s.size≤17∧iT w' B a len cap size∧w.grownBy w' (some B):=by
 have HS:Hid (iT w B a len cap size):=hs;clear hs;go_enter Tryz.func94,Tryz.ntmps94
 go_wp2_with fail
 refine(bO 15 B a len cap size _ (by omega) hl HS.out).mono ?_;rintro e w1 ⟨b,rfl,hs1,hg1⟩;have H1:Hid (iT w1 B a len cap size∧w.grownBy w1 (some B)):=⟨hs1,hg1⟩;clear hs1 hg1 HS
 cases b
 ·go_wp2_with fail
  refine(bO 2 B a len cap size _ (by omega) hl H1.out.1).mono ?_;rintro e w2 ⟨b,rfl,hs2,hg2⟩;have H2:Hid (iT w2 B a len cap size∧w.grownBy w2 (some B)):=⟨hs2,fT H1.out.2 hg2⟩;clear hs2 hg2 H1;go_wp2_with fail
  refine(mB b B a len cap size _ hl H2.out.1).mono ?_;rintro e w3 ⟨s,rfl,h3,hs3,hg3⟩;have H3:Hid (s.size≤17∧iT w3 B a len cap size∧w.grownBy w3 (some B)):=⟨by rw[h3];cases b<;>simp,hs3,fT H2.out.2 hg3⟩;clear h3 hs3 hg3 H2;go_wp2
  go_ret;exact⟨s,rfl,H3.out.1,H3.out.2.1,H3.out.2.2⟩
 ·go_wp2_with fail
  refine(aT 18 B a len cap size _ (by omega) (by omega) hl H1.out.1).mono ?_;rintro e w2 ⟨r,rfl,r0,r1,hs2,hg2⟩;have H2:Hid (iT w2 B a len cap size∧w.grownBy w2 (some B)):=⟨hs2,fT H1.out.2 hg2⟩;clear hs2 hg2 H1;obtain⟨m,rfl⟩:=TZ r0;go_wp2_with fail
  refine(nI m B a len cap size _ (by omega) hl H2.out.1).mono ?_;rintro e w3 ⟨s,rfl,h3,hs3,hg3⟩;have H3:Hid (s.size≤17∧iT w3 B a len cap size∧w.grownBy w3 (some B)):=⟨by omega,hs3,fT H2.out.2 hg3⟩;clear h3 hs3 hg3 H2;go_wp2
  go_ret;exact⟨s,rfl,H3.out.1,H3.out.2.1,H3.out.2.2⟩
open Go.PlainAid
section
variable {w wx wy:World} {B len cap:Nat} {a:OA} {size:Int}
structure Dr(w:World)(B:Nat)(a:OA)(len cap:Nat)(size:Int)(wx:World):Prop where
 src:iT wx B a len cap size
 grown:w.grownBy wx (some B)
 hB:B < w.heap.size
theorem Dr.start(hs:iT w B a len cap size):Dr w B a len cap size w:=⟨hs,World.grownBy.refl _ _,by obtain⟨_,_,_,h⟩:=hs;exact UH w _ h.cb⟩
theorem Dr.draw(h:Dr w B a len cap size wx)(hs:iT wy B a len cap size)(hg:wx.grownBy wy (some B)):Dr w B a len cap size wy:=⟨hs,fT h.grown hg,h.hB⟩
theorem Dr.below(h:Dr w B a len cap size wx)(hb:Below wx.heap.size wx wy):Dr w B a len cap size wy:=⟨h.src.kept (jD (r:=none) hb) (by simp),fT h.grown (jD hb),h.hB⟩
theorem Dr.alloc(h:Dr w B a len cap size wx)(o:Obj):Dr w B a len cap size (wx.alloc o):=h.below (bR.alloc lR o)
theorem Dr.set(h:Dr w B a len cap size wx)(R j:Nat)(v:Value)(hR:w.heap.size≤R):Dr w B a len cap size (wx.setCell ⟨R,j,none⟩ v) :=
 ⟨h.src.kept (aH wx R j v) (fun k e=>by have:=h.hB;injection e with e;omega),yD h.grown hR,h.hB⟩
theorem Dr.le(h:Dr w B a len cap size wx):w.heap.size≤wx.heap.size:=h.grown.size
end
open Go.ChangeShapes Go.WideShapes
structure ST(w:World)(B:Nat)(p:P6):Prop where
 c0:w.cell? ⟨B,0,none⟩=some (iV p.cls)
 c1:w.cell? ⟨B,1,none⟩=some (iV p.flow)
 c2:w.cell? ⟨B,2,none⟩=some (iV p.next)
 c3:w.cell? ⟨B,3,none⟩=some (iV p.hops)
 c4:w.cell? ⟨B,4,none⟩=some (.string p.src)
 c5:w.cell? ⟨B,5,none⟩=some (.string p.dst)
 c6:w.cell? ⟨B,6,none⟩=some (.bool p.piece)
 c7:w.cell? ⟨B,7,none⟩=some (.bool p.more)
 c8:w.cell? ⟨B,8,none⟩=some (iV p.off)
 c9:w.cell? ⟨B,9,none⟩=some (iV p.id)
 c10:w.cell? ⟨B,10,none⟩=some (.string p.data)
def DO(x y:Int):List UInt8:=[UInt8.ofNat x.toNat,UInt8.ofNat y.toNat]
theorem GV{w:World}{b:Nat}{x y:Int}(hx:0≤x∧x≤255)(hy:0≤y∧y≤255)
  (hc0:w.cell? ⟨b,0,none⟩=some (.int .u8 x)) (hc1:w.cell? ⟨b,1,none⟩=some (.int .u8 y)) :
  ∀j (hj:j < (DO x y).length),w.cell? (Addr.add ⟨b,0,none⟩ j)=some (.int .u8 ((DO x y)[j].toNat:Int)):=by
 intro j hj;match j,hj with
 | 0,_=>simp only[Addr.add,Nat.add_zero,DO,UO];rw[fI _ hx.1 hx.2];exact hc0
 | 1,_=>simp only[Addr.add,TX,DO,List.getElem_cons_succ,UO];rw[fI _ hy.1 hy.2];exact hc1
theorem tN{w:World}{b cap:Nat}{x y:Int}(hx:0≤x∧x≤255)(hy:0≤y∧y≤255)
  (hc0:w.cell? ⟨b,0,none⟩=some (.int .u8 x)) (hc1:w.cell? ⟨b,1,none⟩=some (.int .u8 y)) :
  (convert 22 9 (.slice (some ⟨b,0,none⟩) 2 cap)).run Tryz.prog w=.ok (.string (kE x y)) w :=
 run_convert_bytes_back (P:=Tryz.prog) w 22 9 5 ⟨b,0,none⟩ cap (DO x y) Tryz.underlying22 Tryz.underlying5 Tryz.underlying9 (GV hx hy hc0 hc1)
end Go.Proofs.YtdkepkaflielhaaGreatDoor
