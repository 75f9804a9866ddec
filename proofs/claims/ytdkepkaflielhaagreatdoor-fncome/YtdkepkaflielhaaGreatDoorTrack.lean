import Derived.Test.YtdkepkaflielhaaGreatDoorAb
import Derived.Test.YtdkepkaflielhaaGreatDoorPkt
set_option linter.unusedVariables false
set_option linter.unusedSimpArgs false
set_option maxRecDepth 100000
set_option maxHeartbeats 8000000
namespace Go.Proofs.YtdkepkaflielhaaGreatDoor
open Go.RowKit
structure Lv where
 udp:Int
 echo:Int
 opening:Int
 opn:Int
 closing:Int
def lvC (l:Lv):Value:=.agg #[iV l.udp,iV l.echo,iV l.opening,iV l.opn,iV l.closing]
def lvL (l:Lv):List Value:=[iV l.udp,iV l.echo,iV l.opening,iV l.opn,iV l.closing]
def livesOk (l:Lv):Bool:=isIn l.udp 1 10000&&isIn l.echo 1 10000&&isIn l.opening 1 10000&&isIn l.opn 1 10000&&isIn l.closing 1 10000
def stillP (proto:Int):Bool:=decide (proto=17)||decide (proto=1)
def flagB (flags:Int) (m:Int):Bool:=decide (bits .and .i64 flags m≠0)
def trackNewV (proto:Int) (inside:Bool) (flags:Int):Int :=
 if isIn flags 0 255=false then 0 else if stillP proto=true then 3
 else if proto=6∧flagB flags 2=true∧flagB flags 4=false∧flagB flags 16=false then (if inside=true then 1 else 2) else 0
def trackNextV (proto state:Int) (inside:Bool) (flags:Int):Int :=
 if stillP proto=true then 3
 else if proto=6∧isIn state 1 7=true∧isIn flags 0 255=true then
  if flagB flags 4=true then 7
  else if state=1 then (if inside=false∧flagB flags 2=true then 3 else 1)
  else if state=2 then (if inside=true∧flagB flags 2=true then 3 else 2)
  else if state=3 then (if flagB flags 1=true then (if inside=true then 4 else 5) else 3)
  else if state=4 then (if inside=false∧flagB flags 1=true then 6 else 4)
  else if state=5 then (if inside=true∧flagB flags 1=true then 6 else 5)
  else if state=7 then 3 else state
 else 0
def trackLifeV (l:Lv) (proto state:Int):Int :=
 if livesOk l=false then 0
 else if proto=17 then l.udp else if proto=1 then l.echo else if proto=6 then
  (if state=1∨state=2 then l.opening else if state=3∨state=4∨state=5 then l.opn else if state=6∨state=7 then l.closing else 0)
 else 0
end Go.Proofs.YtdkepkaflielhaaGreatDoor
