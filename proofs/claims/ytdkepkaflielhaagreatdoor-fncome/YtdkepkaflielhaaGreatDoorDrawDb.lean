import Derived.Test.YtdkepkaflielhaaGreatDoorSz
import Derived.Test.YtdkepkaflielhaaGreatDoorAb
import Derived.Test.YtdkepkaflielhaaGreatDoorDrawPool
import Derived.Test.YtdkepkaflielhaaGreatDoorDrawPrefix
import Derived.Test.YtdkepkaflielhaaGreatDoorBook
set_option linter.unusedVariables false
set_option linter.unusedSimpArgs false
set_option maxRecDepth 100000
set_option maxHeartbeats 8000000
namespace Go.Proofs.YtdkepkaflielhaaGreatDoor
open Go.RowKit Go.PlainAid
structure DB (w:World) (B:Nat) (sa:Option Addr) (len cap:Nat) (size:Int) (ks:List (Nat × List Value)) (wx:World):Prop where
 dr:Dr w B sa len cap size wx
 k:∀ e∈ks,HoldsL wx e.1 e.2
 z:∀ e∈ks,0 < e.2.length
 n:∀ e∈ks,w.heap.size≤e.1
section
variable {w wx wy:World} {B:Nat} {sa:Option Addr} {len cap:Nat} {size:Int} {ks:List (Nat × List Value)}
theorem DB.draw (h:DB w B sa len cap size ks wx) (hs:Src wy B sa len cap size) (hg:wx.grownBy wy (some B)):DB w B sa len cap size ks wy :=
 ⟨h.dr.draw hs hg,fun e he=>(h.k e he).grown (h.z e he) hg (by have:=h.n e he; have:=h.dr.hB; simp; omega),h.z,h.n⟩
theorem DB.below (h:DB w B sa len cap size ks wx) (hb:Below wx.heap.size wx wy):DB w B sa len cap size ks wy :=
 ⟨h.dr.below hb,fun e he=>(h.k e he).kept (h.z e he) hb,h.z,h.n⟩
theorem DB.push (h:DB w B sa len cap size ks wx) (vs:List Value) (hv:0 < vs.length) (T:TypeId):DB w B sa len cap size ((wx.heap.size,vs)::ks) (wx.alloc (.cells vs.toArray T)):=by
 have h2:=h.below ((Below.refl wx.heap.size wx).alloc lR (.cells vs.toArray T));refine ⟨h2.dr,fun e he=>?_,fun e he=>?_,fun e he=>?_⟩
 ·rcases List.mem_cons.1 he with rfl | he
  ·exact HoldsL.new wx vs T
  ·exact h2.k e he
 ·rcases List.mem_cons.1 he with rfl | he
  ·exact hv
  ·exact h.z e he
 ·rcases List.mem_cons.1 he with rfl | he
  ·exact h.dr.le
  ·exact h.n e he
theorem DB.at {X:Nat} {l:List Value} (h:DB w B sa len cap size ks wx) (hm:(X,l)∈ks):HoldsL wx X l:=h.k _ hm
theorem DB.set {X:Nat} {vs vs':List Value} (h:DB w B sa len cap size ((X,vs)::ks) wx) (j:Nat) (v:Value) (hv:vs.set j v=vs') (hne:∀ e∈ks,e.1≠X):DB w B sa len cap size ((X,vs')::ks) (wx.setCell ⟨X,j,none⟩ v):=by
 subst hv;refine ⟨h.dr.set X j v (h.n _ (List.mem_cons_self ..)),fun e he=>?_,fun e he=>?_,fun e he=>?_⟩
 ·rcases List.mem_cons.1 he with rfl | he
  ·exact (h.k _ (List.mem_cons_self ..)).set j v
  ·exact (h.k e (List.mem_cons_of_mem _ he)).setOther (hne e he) v
 ·rcases List.mem_cons.1 he with rfl | he
  ·have:=h.z _ (List.mem_cons_self ..); simpa using this
  ·exact h.z e (List.mem_cons_of_mem _ he)
 ·rcases List.mem_cons.1 he with rfl | he
  ·exact h.n (X,vs) (List.mem_cons_self ..)
  ·exact h.n e (List.mem_cons_of_mem _ he)
theorem DB.tail {e:Nat × List Value} (h:DB w B sa len cap size (e::ks) wx):DB w B sa len cap size ks wx:=⟨h.dr,fun x hx=>h.k x (List.mem_cons_of_mem _ hx),fun x hx=>h.z x (List.mem_cons_of_mem _ hx),fun x hx=>h.n x (List.mem_cons_of_mem _ hx)⟩
theorem DB.swap {e f:Nat × List Value} (h:DB w B sa len cap size (e::f::ks) wx):DB w B sa len cap size (f::e::ks) wx :=
 ⟨h.dr,fun x hx=>h.k x (by simp at hx ⊢; rcases hx with h | h | h<;>simp [h]),fun x hx=>h.z x (by simp at hx ⊢; rcases hx with h | h | h<;>simp [h]),fun x hx=>h.n x (by simp at hx ⊢; rcases hx with h | h | h<;>simp [h])⟩
theorem DB.sub {ks':List (Nat × List Value)} (h:DB w B sa len cap size ks wx) (hs:∀ e∈ks',e∈ks):DB w B sa len cap size ks' wx:=⟨h.dr,fun e he=>h.k e (hs e he),fun e he=>h.z e (hs e he),fun e he=>h.n e (hs e he)⟩
theorem DB.lts (h:DB w B sa len cap size ks wx):∀ e∈ks,e.1 < wx.heap.size:=fun e he=>(h.k e he).lt (h.z e he)
end
def XIx (n:Nat):Value→World→Prop:=fun v _=>∃ k:Nat,v=iV k∧k < n
theorem st_XIx {B n:Nat}:StableX (EB B) (XIx n):=fun _ _ _ h _=>h
def inR (n:Int):Prop:=-3000000000≤n∧n≤3000000000
def BdDr (q:Bd):Prop:=q.inn.size≤1000∧q.out.size≤1000∧inR q.proto∧inR q.inPort∧inR q.outPort
def SsDr (s:Ss):Prop:=s.inn.size≤1000∧s.peer.size≤1000∧inR s.proto∧inR s.inPort∧inR s.peerPort
def BbDr (x:Bb):Prop:=x.binds.length≤100∧x.sess.length≤100∧(∀ q∈x.binds,BdDr q)∧∀ s∈x.sess,SsDr s
def TcDr (t:Tc):Prop:=t.addr.size≤1000∧t.peer.size≤1000∧inR t.proto
theorem inR_64 {n:Int} (h:inR n):In64t n:=by unfold inR at h; unfold In64t; constructor<;>omega
theorem BdDr.good {q:Bd} (h:BdDr q):BdGood q:=⟨by have:=h.1; omega,by have:=h.2.1; omega,inR_64 h.2.2.1,inR_64 h.2.2.2.1,inR_64 h.2.2.2.2⟩
theorem SsDr.good {s:Ss} (h:SsDr s):SsGood s:=⟨by have:=h.1; omega,by have:=h.2.1; omega,inR_64 h.2.2.1,inR_64 h.2.2.2.1⟩
theorem drawNum_any (B:Nat) (a:Option Addr) (len cap:Nat) (size:Int) (w:World) (hl:len≤1048576) (hs:Src w B a len cap size) :
  Calls Tryz.prog 95 #[.pointer (some ⟨B,0,none⟩)] w fun e w'=>∃ r,e=.returned (iV r)∧Src w' B a len cap size∧w.grownBy w' (some B):=by
 have D0:Hid (Dr w B a len cap size w):=Dr.start hs;clear hs;go_enter Tryz.func95,Tryz.ntmps95
 go_wp2_with fail
 refine (drawOne_any 12 B a len cap size _ (by omega) hl D0.out.src).mono ?_;rintro e w1 ⟨c,rfl,hs,hg⟩;have D1:Hid (Dr w B a len cap size w1):=D0.out.draw hs hg;clear hs hg D0
 cases c with
 | true =>
  go_wp2_with fail
  refine (drawEdge_any B a len cap size _ hl D1.out.src).mono ?_;rintro e w2 ⟨r2,rfl,-,hs,hg⟩;have D2:Hid (Dr w B a len cap size w2):=D1.out.draw hs hg;clear hs hg D1;have D3:Hid (Dr w B a len cap size (w2.alloc (.cells #[iV (-1),iV 65536,iV r2] 2))):=D2.out.alloc _;have hB2:B < w2.heap.size:=Nat.lt_of_lt_of_le D2.out.hB D2.out.le;go_wp2_with fail
  refine (drawN_more 3 B a len cap size _ (by omega) (by omega) hl D3.out.src).mono ?_;rintro e w4 ⟨r,rfl,r0,r1,hs2,hg2⟩;obtain ⟨k,rfl⟩:=Int.eq_ofNat_of_zero_le r0;obtain ⟨y,hcell,hy⟩:=pickI (k:=k) [-1,65536,r2] hg2 hB2 (by simp; omega);have r1':(k:Int) < 3:=by omega
  have D4:Hid (Dr w B a len cap size w4):=D3.out.draw hs2 hg2;clear hs2 hg2 r0 r1 D3 D2 hy;go_wp2_with fail
  go_ret;exact ⟨y,rfl,D4.out.src,D4.out.grown⟩
 | false =>
  go_wp2_with fail
  refine (drawN_more 65536 B a len cap size _ (by omega) (by omega) hl D1.out.src).mono ?_;rintro e w2 ⟨r2,rfl,lo2,hi2,hs,hg⟩;have D2:Hid (Dr w B a len cap size w2):=D1.out.draw hs hg;clear hs hg D1;go_wp2_with fail
  refine (drawN_more 65536 B a len cap size _ (by omega) (by omega) hl D2.out.src).mono ?_;rintro e w3 ⟨r3,rfl,lo3,hi3,hs,hg⟩;have D3:Hid (Dr w B a len cap size w3):=D2.out.draw hs hg;clear hs hg D2;have D4:Hid (Dr w B a len cap size (w3.alloc (.cells #[iV 0,iV 1,iV 255,iV 256,iV 65534,iV 65535,iV r2,iV r3] 2))):=D3.out.alloc _;have hB2:B < w3.heap.size:=Nat.lt_of_lt_of_le D3.out.hB D3.out.le;go_wp2_with fail
  refine (drawN_more 8 B a len cap size _ (by omega) (by omega) hl D4.out.src).mono ?_;rintro e w5 ⟨r,rfl,r0,r1,hs2,hg2⟩;obtain ⟨k,rfl⟩:=Int.eq_ofNat_of_zero_le r0;obtain ⟨y,hcell,hy⟩:=pickI (k:=k) [0,1,255,256,65534,65535,r2,r3] hg2 hB2 (by simp; omega);have r1':(k:Int) < 8:=by omega
  have D5:Hid (Dr w B a len cap size w5):=D4.out.draw hs2 hg2;clear hs2 hg2 r0 r1 D4 D3 hy;go_wp2_with fail
  go_ret;exact ⟨y,rfl,D5.out.src,D5.out.grown⟩
end Go.Proofs.YtdkepkaflielhaaGreatDoor
