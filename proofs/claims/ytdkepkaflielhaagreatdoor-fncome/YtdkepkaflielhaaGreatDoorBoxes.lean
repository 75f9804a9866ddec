import Derived.Test.YtdkepkaflielhaaGreatDoorSz
import Derived.Test.YtdkepkaflielhaaGreatDoorAb
import Derived.Test.YtdkepkaflielhaaGreatDoorHoldL
import Derived.Test.YtdkepkaflielhaaGreatDoorGrow
set_option linter.unusedVariables false
set_option linter.unusedSimpArgs false
set_option maxRecDepth 100000
set_option maxHeartbeats 8000000
namespace Go.Proofs.YtdkepkaflielhaaGreatDoor
open Go.RowKit
structure Bxs (w:World) (ks:List (Nat × List Value)) (wx:World):Prop where
 k:∀ e∈ks,HoldsL wx e.1 e.2
 b:Below w.heap.size w wx
 z:∀ e∈ks,0 < e.2.length
theorem Bxs.at {w wx:World} {ks:List (Nat × List Value)} {a:Nat} {l:List Value} (h:Bxs w ks wx) (hm:(a,l)∈ks):HoldsL wx a l:=h.k _ hm
theorem Bxs.kept {w wx wy:World} {ks:List (Nat × List Value)} (h:Bxs w ks wx) (hB:Below wx.heap.size wx wy):Bxs w ks wy:=⟨fun e he=>(h.k e he).kept (h.z e he) hB,h.b.trans (hB.mono h.b.size),h.z⟩
theorem Bxs.lts {w wx:World} {ks:List (Nat × List Value)} (h:Bxs w ks wx):∀ e∈ks,e.1 < wx.heap.size∧0 < e.2.length:=fun e he=>⟨(h.k e he).lt (h.z e he),h.z e he⟩
theorem Bxs.push {w wx:World} {ks:List (Nat × List Value)} (h:Bxs w ks wx) (vs:List Value) (hv:0 < vs.length) (T:TypeId):Bxs w ((wx.heap.size,vs)::ks) (wx.alloc (.cells vs.toArray T)):=by
 have hal:Below wx.heap.size wx (wx.alloc (.cells vs.toArray T)):=bR.alloc lR _;refine ⟨fun e he=>?_,h.b.trans (hal.mono h.b.size),fun e he=>?_⟩
 ·rcases List.mem_cons.1 he with rfl | he
  ·exact HoldsL.new wx vs T
  ·exact (h.k e he).kept (h.z e he) hal
 ·rcases List.mem_cons.1 he with rfl | he
  ·exact hv
  ·exact h.z e he
theorem Bxs.cons {w wx:World} {ks:List (Nat × List Value)} {g:Nat} {vs:List Value} (h:Bxs w ks wx) (hg:HoldsL wx g vs) (hv:0 < vs.length):Bxs w ((g,vs)::ks) wx:=⟨fun e he=>by
 rcases List.mem_cons.1 he with rfl | he
 ·exact hg
 ·exact h.k e he,h.b,fun e he=>by
 rcases List.mem_cons.1 he with rfl | he
 ·exact hv
 ·exact h.z e he⟩
def IsZy (base:Nat) (zs:List Value):Value→World→Prop:=fun v w=>∃ g,v=.pointer (some ⟨g,0,none⟩)∧base≤g∧HoldsL w g zs
theorem stable_isZy (base:Nat) (zs:List Value) (h:0 < zs.length):Stable (IsZy base zs):=fun v w w' ⟨g,h1,h2,h3⟩ hb=>⟨g,h1,h2,h3.kept h hb⟩
theorem bx1 (w : World) (l0 : List Value) (T0 : TypeId) (z0 : 0 < l0.length) : Hid (Bxs w [(w.heap.size,l0)] (w.alloc (.cells l0.toArray T0))) := by
 have e0:HoldsL (w.alloc (.cells l0.toArray T0)) (w.z) l0:=by
  have h:=HoldsL.new w l0 T0
  try simp only [World.size_alloc] at h
  exact h
 refine ⟨fun e he=>?_,((Below.refl _ _).alloc (by (try simp only [World.size_alloc]); omega) _),fun e he=>?_⟩
 · simp only [List.mem_cons,List.not_mem_nil,or_false] at he
   rcases he with rfl
   · exact e0
 · simp only [List.mem_cons,List.not_mem_nil,or_false] at he
   rcases he with rfl
   · exact z0
theorem bx2 (w : World) (l0 : List Value) (T0 : TypeId) (l1 : List Value) (T1 : TypeId) (z0 : 0 < l0.length) (z1 : 0 < l1.length) : Hid (Bxs w [(w.heap.size,l0),(w.heap.size+1,l1)] ((w.alloc (.cells l0.toArray T0)).alloc (.cells l1.toArray T1))) := by
 have e0:HoldsL ((w.alloc (.cells l0.toArray T0)).alloc (.cells l1.toArray T1)) (w.z) l0:=by
  have h:=HoldsL.new w l0 T0
  try simp only [World.size_alloc] at h
  exact (h.alloc _)
 have e1:HoldsL ((w.alloc (.cells l0.toArray T0)).alloc (.cells l1.toArray T1)) (w.z+1) l1:=by
  have h:=HoldsL.new (w.alloc (.cells l0.toArray T0)) l1 T1
  try simp only [World.size_alloc] at h
  exact h
 refine ⟨fun e he=>?_,(((Below.refl _ _).alloc (by (try simp only [World.size_alloc]); omega) _).alloc (by (try simp only [World.size_alloc]); omega) _),fun e he=>?_⟩
 · simp only [List.mem_cons,List.not_mem_nil,or_false] at he
   rcases he with rfl | rfl
   · exact e0
   · exact e1
 · simp only [List.mem_cons,List.not_mem_nil,or_false] at he
   rcases he with rfl | rfl
   · exact z0
   · exact z1
theorem bx3 (w : World) (l0 : List Value) (T0 : TypeId) (l1 : List Value) (T1 : TypeId) (l2 : List Value) (T2 : TypeId) (z0 : 0 < l0.length) (z1 : 0 < l1.length) (z2 : 0 < l2.length) : Hid (Bxs w [(w.heap.size,l0),(w.heap.size+1,l1),(w.heap.size+1+1,l2)] (((w.alloc (.cells l0.toArray T0)).alloc (.cells l1.toArray T1)).alloc (.cells l2.toArray T2))) := by
 have e0:HoldsL (((w.alloc (.cells l0.toArray T0)).alloc (.cells l1.toArray T1)).alloc (.cells l2.toArray T2)) (w.z) l0:=by
  have h:=HoldsL.new w l0 T0
  try simp only [World.size_alloc] at h
  exact ((h.alloc _).alloc _)
 have e1:HoldsL (((w.alloc (.cells l0.toArray T0)).alloc (.cells l1.toArray T1)).alloc (.cells l2.toArray T2)) (w.z+1) l1:=by
  have h:=HoldsL.new (w.alloc (.cells l0.toArray T0)) l1 T1
  try simp only [World.size_alloc] at h
  exact (h.alloc _)
 have e2:HoldsL (((w.alloc (.cells l0.toArray T0)).alloc (.cells l1.toArray T1)).alloc (.cells l2.toArray T2)) (w.z+1+1) l2:=by
  have h:=HoldsL.new ((w.alloc (.cells l0.toArray T0)).alloc (.cells l1.toArray T1)) l2 T2
  try simp only [World.size_alloc] at h
  exact h
 refine ⟨fun e he=>?_,((((Below.refl _ _).alloc (by (try simp only [World.size_alloc]); omega) _).alloc (by (try simp only [World.size_alloc]); omega) _).alloc (by (try simp only [World.size_alloc]); omega) _),fun e he=>?_⟩
 · simp only [List.mem_cons,List.not_mem_nil,or_false] at he
   rcases he with rfl | rfl | rfl
   · exact e0
   · exact e1
   · exact e2
 · simp only [List.mem_cons,List.not_mem_nil,or_false] at he
   rcases he with rfl | rfl | rfl
   · exact z0
   · exact z1
   · exact z2
end Go.Proofs.YtdkepkaflielhaaGreatDoor
