import Derived.Test.YtdkepkaflielhaaGreatDoorAb
import Derived.Test.YtdkepkaflielhaaGreatDoorLawBib
set_option linter.unusedVariables false
set_option linter.unusedSimpArgs false
set_option maxRecDepth 100000
set_option maxHeartbeats 8000000
namespace Go.Proofs.YtdkepkaflielhaaGreatDoor
open Go.RowKit Go.PlainAid Go.ChangeShapes Go.WideShapes
section
variable {α:Type} {en:α→List Value} {n:Nat} {w W:World}
end
structure BbMk (base:Nat) (w:World) (a b:Option Addr) (k nb ns:Nat):Prop where
 bd:MkOwn 5 bindM base w a k nb
 ss:MkOwn 7 sessionM base w b (k+5*nb) ns
structure Bo where
 bib:Bb
 bind:Bd
 code:Int
def boL (a b:Option Addr) (ca cb:Nat) (o:Bo):List Value:=[.slice a o.bib.binds.length ca,.slice b o.bib.sess.length cb,iV o.bind.proto,.string o.bind.inn,iV o.bind.inPort,.string o.bind.out,iV o.bind.outPort,iV o.code]
def boC (a b:Option Addr) (ca cb:Nat) (o:Bo):Value:=.agg #[.slice a o.bib.binds.length ca,.slice b o.bib.sess.length cb,iV o.bind.proto,.string o.bind.inn,iV o.bind.inPort,.string o.bind.out,iV o.bind.outPort,iV o.code]
def BoRet (base:Nat) (o:Bo) (e:Ending) (w:World):Prop:=∃ a b ca cb,e=.returned (boC a b ca cb o)∧BbOwn base w a b o.bib
abbrev BoV (a : Option Addr) (b : Nat) (c : Option Addr) (d : Nat) (o : Bo) : List Value := [.slice a o.bib.binds.length b,.slice c o.bib.sess.length d,iV o.bind.proto,.string o.bind.inn,iV o.bind.inPort,.string o.bind.out,iV o.bind.outPort,iV o.code]
end Go.Proofs.YtdkepkaflielhaaGreatDoor
