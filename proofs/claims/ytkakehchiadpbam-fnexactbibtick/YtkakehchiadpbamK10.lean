/- SPort, SPortFor, in one text. -/
import Derived.Test.YtkakehchiadpbamPorts
import Derived.Test.YtkakehchiadpbamSBibR
import Derived.Test.YtkakehchiadpbamLawBibM

/- SPort: what the specification's l08Port answers. Printed by mksport.py. -/
namespace Go.Proofs.Ytkakehchiadpbam
open Go.RowKit Go.PlainAid
set_option linter.unusedVariables false
set_option linter.unusedSimpArgs false

/-- The boxes of l08Port: the pool, the bib, the bind that is told. -/
structure PortSt (w : World) (p : Pl) (x : Bb) (pa : Option Addr) (pc : Nat) (a b : Option Addr) (ca cb : Nat) (wx : World) : Prop where
  p : HoldsL wx w.heap.size [.slice pa p.addrs.length pc, .int .i64 p.low, .int .i64 p.high, .int .i64 p.most, .int .i64 p.filter, .int .i64 p.lv.udp, .int .i64 p.lv.echo, .int .i64 p.lv.opening, .int .i64 p.lv.opn, .int .i64 p.lv.closing]
  x : HoldsL wx (w.heap.size + 1) [.slice a x.binds.length ca, .slice b x.sess.length cb]
  r : HoldsL wx (w.heap.size + 1 + 1) [.int .i64 0, .string ⟨#[]⟩, .int .i64 0, .string ⟨#[]⟩, .int .i64 0]
  b : Below w.heap.size w wx
theorem PortSt.kept {w : World} {p : Pl} {x : Bb} {pa : Option Addr} {pc : Nat} {a b : Option Addr} {ca cb : Nat} {wx wy : World} (h : PortSt w p x pa pc a b ca cb wx) (hB : Below wx.heap.size wx wy) : PortSt w p x pa pc a b ca cb wy :=
  ⟨h.p.kept (by simp) hB, h.x.kept (by simp) hB, h.r.kept (by simp) hB, h.b.trans (hB.mono h.b.size)⟩
theorem PortSt.setY {w : World} {p : Pl} {x : Bb} {pa : Option Addr} {pc : Nat} {a b : Option Addr} {ca cb : Nat} {wx : World} (h : PortSt w p x pa pc a b ca cb wx) {Y : Nat} (hY : w.heap.size + 1 + 1 < Y) (j : Nat) (v : Value) : PortSt w p x pa pc a b ca cb (wx.setCell ⟨Y, j, none⟩ v) :=
  ⟨h.p.setOther (by omega) v, h.x.setOther (by omega) v, h.r.setOther (by omega) v, h.b.setCell (p := ⟨Y, j, none⟩) (by show w.heap.size ≤ Y; omega) v⟩
theorem PortSt.drewK {w : World} {p : Pl} {x : Bb} {pa : Option Addr} {pc : Nat} {a b : Option Addr} {ca cb : Nat} {wx : World} (h : PortSt w p x pa pc a b ca cb wx) : PortSt w p x pa pc a b ca cb wx.drew := ⟨h.p.drew, h.x.drew, h.r.drew, h.b.drew⟩


end Go.Proofs.Ytkakehchiadpbam

/- SPortFor: what the specification's PortFor answers. Printed by mksportfor.py. -/
namespace Go.Proofs.Ytkakehchiadpbam
open Go.RowKit Go.PlainAid
set_option linter.unusedVariables false
set_option linter.unusedSimpArgs false

def bbZ : Bb := ⟨[], []⟩
def portForV (p : Pl) (x : Bb) (proto : Int) (inn : ByteArray) (port : Int) : Bo :=
  if 20000 < inn.size then ⟨bbZ, bdZ, 2⟩
  else if (bibOk p x && protoB proto && addrOk inn && isW port) = true then ⟨bbZ, (lendV p x.binds proto inn port).1, (lendV p x.binds proto inn port).2⟩
  else ⟨bbZ, bdZ, 1⟩


end Go.Proofs.Ytkakehchiadpbam
