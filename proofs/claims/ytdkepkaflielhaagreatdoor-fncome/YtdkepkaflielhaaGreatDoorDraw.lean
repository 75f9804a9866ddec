import Derived.Test.YtdkepkaflielhaaGreatDoorSz
import Derived.Test.YtdkepkaflielhaaGreatDoorAb
import Derived.Test.YtdkepkaflielhaaGreatDoorProg
import Derived.Test.YtdkepkaflielhaaGreatDoorBase
import Derived.WalkKit
import Derived.WalkLawsBesides
import Derived.RegionTactic
import Derived.ChangeAlike
import Derived.BigQuiet
import Derived.Deep.QuietTactic
import Derived.Deep.DeepCutAuto
import Derived.OpenShut
import Derived.Laws.Bits64
set_option linter.unusedVariables false
set_option linter.unusedSimpArgs false
set_option maxRecDepth 100000
set_option maxHeartbeats 8000000
namespace Go.Proofs.YtdkepkaflielhaaGreatDoor
open Go.RowKit
structure Bytes (w:World) (a:Option Addr) (len:Nat) (B:Nat):Prop where
 get:∀ i,i < len→∃ b off,a=some ⟨b,off,none⟩∧b < B∧∃ x:Int,0≤x∧x≤255∧w.cell? ⟨b,off+i,none⟩=some (.int .u8 x)
theorem Bytes.kept {w w':World} {a:Option Addr} {len B:Nat} {row:Option Nat} (h:Bytes w a len B) (hg:w.grownBy w' row) (hr:∀ k,row=some k→B≤k):Bytes w' a len B :=
 ⟨fun i hi=>by
  obtain ⟨b,off,e,hb,x,h0,h1,hc⟩:=h.get i hi;exact ⟨b,off,e,hb,x,h0,h1,hg.cell hc (fun e=>by have:=hr b e.symm; omega)⟩⟩
theorem Bytes.mono {w:World} {a:Option Addr} {len B B':Nat} (h:Bytes w a len B) (hB:B≤B'):Bytes w a len B' :=
 ⟨fun i hi=>by
  obtain ⟨b,off,e,hb,r⟩:=h.get i hi;exact ⟨b,off,e,by omega,r⟩⟩
structure SrcAt (w:World) (B:Nat) (a:Option Addr) (len cap:Nat) (at1:Nat) (mix size:Int):Prop where
 cb:w.cell? ⟨B,0,none⟩=some (.slice a len cap)
 cat:w.cell? ⟨B,1,none⟩=some (iV at1)
 cmix:w.cell? ⟨B,2,none⟩=some (.int .u64 mix)
 csize:w.cell? ⟨B,3,none⟩=some (iV size)
 f1:w.frozen? ⟨B,1,none⟩=false
 f2:w.frozen? ⟨B,2,none⟩=false
 f3:w.frozen? ⟨B,3,none⟩=false
 low:at1≤len
 m0:0≤mix
 m1:mix≤18446744073709551615
section
variable {w w':World} {B:Nat} {a:Option Addr} {len cap at1:Nat} {mix size:Int}
theorem SrcAt.drew (h:SrcAt w B a len cap at1 mix size):SrcAt w.drew B a len cap at1 mix size:=⟨h.cb,h.cat,h.cmix,h.csize,h.f1,h.f2,h.f3,h.low,h.m0,h.m1⟩
theorem SrcAt.setAt (h:SrcAt w B a len cap at1 mix size) (k:Nat) (hk:k≤len) (v:Value) (hv:v=iV k):SrcAt (w.setCell ⟨B,1,none⟩ v) B a len cap k mix size:=by
 subst hv;exact ⟨(World.cell?_setCell_other _ _ _ _ (by simp)).trans h.cb,World.cell?_setCell_same _ _ _ h.cat,(World.cell?_setCell_other _ _ _ _ (by simp)).trans h.cmix,(World.cell?_setCell_other _ _ _ _ (by simp)).trans h.csize,
  by rw [World.frozen?_setCell]; exact h.f1,by rw [World.frozen?_setCell]; exact h.f2,by rw [World.frozen?_setCell]; exact h.f3,hk,h.m0,h.m1⟩
theorem SrcAt.setMix (h:SrcAt w B a len cap at1 mix size) (m:Int) (hm:0≤m) (hm':m≤18446744073709551615):SrcAt (w.setCell ⟨B,2,none⟩ (.int .u64 m)) B a len cap at1 m size :=
 ⟨(World.cell?_setCell_other _ _ _ _ (by simp)).trans h.cb,(World.cell?_setCell_other _ _ _ _ (by simp)).trans h.cat,World.cell?_setCell_same _ _ _ h.cmix,(World.cell?_setCell_other _ _ _ _ (by simp)).trans h.csize,
  by rw [World.frozen?_setCell]; exact h.f1,by rw [World.frozen?_setCell]; exact h.f2,by rw [World.frozen?_setCell]; exact h.f3,h.low,hm,hm'⟩
theorem SrcAt.setSize (h:SrcAt w B a len cap at1 mix size) (m:Int):SrcAt (w.setCell ⟨B,3,none⟩ (iV m)) B a len cap at1 mix m :=
 ⟨(World.cell?_setCell_other _ _ _ _ (by simp)).trans h.cb,(World.cell?_setCell_other _ _ _ _ (by simp)).trans h.cat,(World.cell?_setCell_other _ _ _ _ (by simp)).trans h.cmix,World.cell?_setCell_same _ _ _ h.csize,
  by rw [World.frozen?_setCell]; exact h.f1,by rw [World.frozen?_setCell]; exact h.f2,by rw [World.frozen?_setCell]; exact h.f3,h.low,h.m0,h.m1⟩
theorem SrcAt.kept {row:Option Nat} (h:SrcAt w B a len cap at1 mix size) (hg:w.grownBy w' row) (hr:some B≠row):SrcAt w' B a len cap at1 mix size:=by
 have hlt:B < w.z:=World.block_lt_of_cell? w _ h.cb;have hb:=hg.block B hlt hr;exact ⟨hg.cell h.cb hr,hg.cell h.cat hr,hg.cell h.cmix hr,hg.cell h.csize hr,(World.frozen?_of_block (a:=⟨B,1,none⟩) hb).trans h.f1,(World.frozen?_of_block (a:=⟨B,2,none⟩) hb).trans h.f2,(World.frozen?_of_block (a:=⟨B,3,none⟩) hb).trans h.f3,h.low,h.m0,h.m1⟩
end
theorem u64_bits (op:BinOp) (x y:Int):0≤bits op .u64 x y∧bits op .u64 x y≤18446744073709551615:=by
 have h:bits op .u64 x y=IntKind.u64.wrap _:=rfl;rw [h,IntKind.wrap_u64]; omega
theorem rem_in (x most mix:Int) (hm:1 < most) (hm2:most≤9223372036854775807):0≤wrap64 ((x+mix / 1048576) % most)∧wrap64 ((x+mix / 1048576) % most) < most:=by
 have h0:=Int.emod_nonneg (x+mix / 1048576) (show most≠0 by omega);have h1:=Int.emod_lt_of_pos (x+mix / 1048576) (show 0 < most by omega);rw [IntWalk.wrap64_in _ ⟨by omega,by omega⟩];exact ⟨h0,h1⟩
def Src (w:World) (B:Nat) (a:Option Addr) (len cap:Nat) (size:Int):Prop:=Bytes w a len B∧∃ at1 mix,SrcAt w B a len cap at1 mix size
theorem Src.kept {w w':World} {B:Nat} {a:Option Addr} {len cap:Nat} {size:Int} {row:Option Nat} (h:Src w B a len cap size) (hg:w.grownBy w' row) (hr:∀ k,row=some k→B < k):Src w' B a len cap size:=by
 obtain ⟨h1,at1,mix,h2⟩:=h;exact ⟨h1.kept hg (fun k e=>Nat.le_of_lt (hr k e)),at1,mix,h2.kept hg (fun e=>by have:=hr B e.symm; omega)⟩
theorem drawN_more (most:Int) (B:Nat) (a:Option Addr) (len cap:Nat) (size:Int) (w:World) (hm:1 < most) (hm2:most≤9223372036854775807) (hl:len≤1048576) (hs:Src w B a len cap size) :
  Calls Tryz.prog 50 #[.pointer (some ⟨B,0,none⟩),iV most] w fun e w'=>∃ r,e=.returned (iV r)∧0≤r∧r < most∧Src w' B a len cap size∧w.grownBy w' (some B):=by
 obtain ⟨hb,at1,mix,hs⟩:=hs;have HS:Hid (SrcAt w B a len cap at1 mix size):=hs;have HB:Hid (Bytes w a len B):=hb;obtain ⟨c0,c1,c2,c3,f1,f2,f3,low,m0,m1⟩:=hs;clear hb;go_enter Tryz.func50,Tryz.ntmps50
 go_upto_region 4 with fail
 go_cut [17] (fun v wx=>v=.bool (decide (at1 < len))∧wx=w.drew)
 case first =>
  go_region
  all_goals (go_wp2_with fail; go_meet; exact ⟨rfl,rfl⟩)
 case rest =>
 obtain ⟨rfl,rfl⟩:=hcut;go_upto_if 17 with fail
 go_cut [5] (fun v wx=>∃ (x:Int) (at2:Nat),v=.int .u64 x∧0≤x∧x≤255∧SrcAt wx B a len cap at2 mix size∧w.grownBy wx (some B))
 case first =>
  by_cases h:at1 < len
  ·obtain ⟨b,off,rfl,hbB,x,x0,x1,cx⟩:=HB.out.get at1 h;have h':(at1:Int) < (len:Int):=by omega
   have hne:¬ b=B:=by omega
   go_wp2
   go_region
   all_goals go_wp2
   all_goals go_meet
   all_goals exact ⟨x,at1+1,rfl,x0,x1,(HS.out.setAt (at1+1) (by omega) _ (by go_num)).drew.drew,grown_drew (grown_drew (grown_set (World.grownBy.refl _ _) _))⟩
  ·have h':¬ (at1:Int) < (len:Int):=by omega
   go_wp2
   all_goals go_meet
   all_goals exact ⟨0,at1,rfl,by omega,by omega,HS.out.drew,grown_drew (World.grownBy.refl _ _)⟩
 case rest =>
 obtain ⟨x,at2,rfl,x0,x1,hs2,hg2⟩:=hcut;clear c0 c1 c2 c3 f1 f2 f3 HS low m0 m1;have HS:Hid (SrcAt wc B a len cap at2 mix size):=hs2;have HG:Hid (w.grownBy wc (some B)):=hg2;obtain ⟨c0,c1,c2,c3,f1,f2,f3,low,m0,m1⟩:=hs2;clear hg2;go_upto_region 7 with fail
 go_cut [] (fun wx=>∃ mix2,SrcAt wx B a len cap at2 mix2 size∧w.grownBy wx (some B))
 case first =>
  go_region
  all_goals (go_wp2_with fail; go_meet; exact ⟨_,(HS.out.setMix _ (u64_bits _ _ _).1 (u64_bits _ _ _).2).drew,grown_drew (grown_set HG.out _)⟩)
 case rest =>
 clear c0 c1 c2 c3 f1 f2 f3 HS HG low m0 m1;obtain ⟨mix,hs2,hg2⟩:=hcut;have HS:Hid (SrcAt wc B a len cap at2 mix size):=hs2;have HG:Hid (w.grownBy wc (some B)):=hg2;obtain ⟨c0,c1,c2,c3,f1,f2,f3,low,m0,m1⟩:=hs2;clear hg2;go_upto_region 8 with fail
 go_cut [] (fun wx=>∃ mix2,SrcAt wx B a len cap at2 mix2 size∧w.grownBy wx (some B))
 case first =>
  go_region
  all_goals (go_wp2_with fail; go_meet; exact ⟨_,(HS.out.setMix _ (u64_bits _ _ _).1 (u64_bits _ _ _).2).drew,grown_drew (grown_set HG.out _)⟩)
 case rest =>
 clear c0 c1 c2 c3 f1 f2 f3 HS HG low m0 m1;obtain ⟨mix,hs2,hg2⟩:=hcut;have HS:Hid (SrcAt wc B a len cap at2 mix size):=hs2;have HG:Hid (w.grownBy wc (some B)):=hg2;obtain ⟨c0,c1,c2,c3,f1,f2,f3,low,m0,m1⟩:=hs2;clear hg2;go_upto_region 9 with fail
 go_cut [] (fun wx=>∃ mix2,SrcAt wx B a len cap at2 mix2 size∧w.grownBy wx (some B))
 case first =>
  go_region
  all_goals (go_wp2_with fail; go_meet; exact ⟨_,(HS.out.setMix _ (u64_bits _ _ _).1 (u64_bits _ _ _).2).drew,grown_drew (grown_set HG.out _)⟩)
 case rest =>
 clear c0 c1 c2 c3 f1 f2 f3 HS HG low m0 m1;obtain ⟨mix,hs2,hg2⟩:=hcut;have HS:Hid (SrcAt wc B a len cap at2 mix size):=hs2;have HG:Hid (w.grownBy wc (some B)):=hg2;obtain ⟨c0,c1,c2,c3,f1,f2,f3,low,m0,m1⟩:=hs2;clear hg2;have R:=rem_in x most mix hm hm2;have H0:Hid _:=R.1;have H1:Hid _:=R.2;clear R;go_wp2
 go_ret;exact ⟨_,rfl,H0.out,H1.out,⟨HB.out.kept HG.out (by simp),at2,mix,HS.out⟩,HG.out⟩
theorem drawN_none (most:Int) (B:Nat) (w:World) (hm:most≤1) :
  Cw 50 #[.pointer (some ⟨B,0,none⟩),iV most] w (iV 0):=by
 go_enter Tryz.func50,Tryz.ntmps50
 go_wp2
 go_ret;exact ⟨rfl,rfl⟩
theorem drawN_any (most:Int) (B:Nat) (a:Option Addr) (len cap:Nat) (size:Int) (w:World) (hm2:most≤9223372036854775807) (hl:len≤1048576) (hs:Src w B a len cap size) :
  Calls Tryz.prog 50 #[.pointer (some ⟨B,0,none⟩),iV most] w fun e w'=>∃ r,e=.returned (iV r)∧0≤r∧(r < most∨r=0)∧Src w' B a len cap size∧w.grownBy w' (some B):=by
 by_cases h:1 < most
 ·refine (drawN_more most B a len cap size w h hm2 hl hs).mono ?_;rintro e w' ⟨r,he,h0,h1,h2,h3⟩;exact ⟨r,he,h0,.inl h1,h2,h3⟩
 ·refine (drawN_none most B w (by omega)).mono ?_;rintro e w' ⟨he,rfl⟩;exact ⟨0,he,by omega,.inr rfl,hs,World.grownBy.refl _ _⟩
theorem drawOne_any (most:Int) (B:Nat) (a:Option Addr) (len cap:Nat) (size:Int) (w:World) (hm2:most≤9223372036854775807) (hl:len≤1048576) (hs:Src w B a len cap size) :
  Calls Tryz.prog 49 #[.pointer (some ⟨B,0,none⟩),iV most] w fun e w'=>∃ r,e=.returned (.bool r)∧Src w' B a len cap size∧w.grownBy w' (some B):=by
 have HS:Hid (Src w B a len cap size):=hs;clear hs;go_enter Tryz.func49,Tryz.ntmps49
 go_wp2_with (go_at_call 50; refine (drawN_any most B a len cap size _ hm2 hl HS.out).mono ?_; rintro e w' ⟨r,rfl,h0,h1,hs2,hg2⟩)
 go_ret;exact ⟨_,rfl,hs2,hg2⟩
theorem u64_wrap (x:Int):0≤IntKind.u64.wrap x∧IntKind.u64.wrap x≤18446744073709551615:=by
 rw [IntKind.wrap_u64]; omega
theorem source_any (a:Option Addr) (len cap:Nat) (w:World) (hl:len≤1048576) (hb:Bytes w a len w.heap.size) :
  Calls Tryz.prog 25 #[.slice a len cap] w fun e w'=>e=.returned (.pointer (some ⟨w.heap.size,0,none⟩))∧Below w.heap.size w w'∧∃ size,0≤size∧size≤12∧Src w' w.heap.size a len cap size:=by
 have HB:Hid (Bytes w a len w.z):=hb;clear hb;go_enter Tryz.func25,Tryz.ntmps25
 go_wp2
 go_loopw [4] (fun i wr=>∃ k:Nat,k≤len∧i=iV k∧(∃ mix,SrcAt wr w.z a len cap 0 mix 0)∧Below w.z w wr) (fun i _=>len-(intOf i).toNat)
 case atStart =>
  exact ⟨0,Nat.zero_le _,rfl,⟨88172645463325252,by simp,by simp,by simp,by simp,by simp,by simp,by simp,Nat.zero_le _,by omega,by omega⟩,bR.alloc lR _⟩
 case round =>
  obtain ⟨k,hk,rfl,⟨mix,hs⟩,hbel⟩:=hrel;have HS:Hid (SrcAt wr w.z a len cap 0 mix 0):=hs;have HL:Hid (Below w.z w wr):=hbel;obtain ⟨c0,c1,c2,c3,f1,f2,f3,low,m0,m1⟩:=hs;clear hbel;by_cases h:k < len∧k < 64
  ·obtain ⟨h1,h2⟩:=h;obtain ⟨b,off,rfl,hbB,x,x0,x1,cx'⟩:=HB.out.get k h1;have cx:wr.cell? ⟨b,off+k,none⟩=some (.int .u8 x):=(HL.out.cell (p:=⟨b,off+k,none⟩) hbB).trans cx';have hne:¬ b=w.z:=by omega
   clear cx';go_wp2
   go_region
   all_goals go_wp2
   all_goals go_roundw
   case rel=>exact ⟨k+1,by omega,by go_num,⟨_,(HS.out.setMix _ (u64_wrap _).1 (u64_wrap _).2).drew⟩,(HL.out.setCell lR _).drew⟩
   case measure=>simp [intOf]; omega
  ·have HD:Hid (Bytes wr a len w.z):=HB.out.kept (grown_of_below (r:=none) (by exact HL.out)) (by simp);clear HB;by_cases h1:k < len;all_goals
    by_cases h12:12 < (len:Int) / 20
    ·go_wp2
     go_ret;exact ⟨rfl,(HL.out.setCell lR _).setCell lR _,12,by omega,by omega,HD.out.kept (grown_set (grown_set (World.grownBy.refl _ _) _) _) (by simp),0,mix,(HS.out.setSize _).setSize _⟩
    ·go_wp2
     go_ret;exact ⟨rfl,HL.out.setCell lR _,(len:Int) / 20,by omega,by omega,HD.out.kept (grown_set (World.grownBy.refl _ _) _) (by simp),0,mix,HS.out.setSize _⟩
end Go.Proofs.YtdkepkaflielhaaGreatDoor
