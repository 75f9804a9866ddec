import Derived.Test.YtjpdljkjalnmhaaMerged7
import Derived.Test.YtjpdljkjalnmhaaSPort
set_option linter.unusedVariables false
set_option linter.unusedSimpArgs false
set_option maxRecDepth 100000
set_option maxHeartbeats 8000000
namespace Go.Proofs.Ytjpdljkjalnmhaa
open Go.RowKit Go.PlainAid Go.ChangeShapes Go.WideShapes
section
variable {α:Type} {en:α→List Value} {n:Nat} {w W:World}
end
structure BbMk (base:Nat) (w:World) (a b:Option Addr) (k nb ns:Nat):Prop where
 bd:MkOwn 5 bindM base w a k nb
 ss:MkOwn 7 sessionM base w b (k+5*nb) ns
theorem BbMk.kept {base:Nat} {w W:World} {a b:Option Addr} {k nb ns:Nat} (h:BbMk base w a b k nb ns) (hB:Below w.heap.size w W):BbMk base W a b k nb ns:=⟨h.bd.kept hB,h.ss.kept hB⟩
structure Bo where
 bib:Bb
 bind:Bd
 code:Int
def boL (a b:Option Addr) (ca cb:Nat) (o:Bo):List Value:=[.slice a o.bib.binds.length ca,.slice b o.bib.sess.length cb,.int .i64 o.bind.proto,.string o.bind.inn,.int .i64 o.bind.inPort,.string o.bind.out,.int .i64 o.bind.outPort,.int .i64 o.code]
def boC (a b:Option Addr) (ca cb:Nat) (o:Bo):Value:=.agg #[.slice a o.bib.binds.length ca,.slice b o.bib.sess.length cb,.int .i64 o.bind.proto,.string o.bind.inn,.int .i64 o.bind.inPort,.string o.bind.out,.int .i64 o.bind.outPort,.int .i64 o.code]
def BoRet (base:Nat) (o:Bo) (e:Ending) (w:World):Prop:=∃ a b ca cb,e=.returned (boC a b ca cb o)∧BbOwn base w a b o.bib
end Go.Proofs.Ytjpdljkjalnmhaa
namespace Go.Proofs.Ytjpdljkjalnmhaa
open Go.RowKit Go.PlainAid
def bbZ:Bb:=⟨[],[]⟩
def portForV (p:Pl) (x:Bb) (proto:Int) (inn:ByteArray) (port:Int):Bo :=
 if 20000 < inn.size then ⟨bbZ,bdZ,2⟩
 else if (bibOk p x&&protoB proto&&addrOk inn&&isW port)=true then ⟨bbZ,(lendV p x.binds proto inn port).1,(lendV p x.binds proto inn port).2⟩
 else ⟨bbZ,bdZ,1⟩
theorem specPortFor_any (p:Pl) (x:Bb) (pa:Option Addr) (pc:Nat) (a b:Option Addr) (ca cb:Nat) (proto:Int) (inn:ByteArray) (port:Int) (w:World) (hlp:p.addrs.length≤1048576) (hpc:p.addrs.length≤pc) (hsz:∀ s∈p.addrs,s.size≤1048576) (hin:inn.size≤1048576) (hl1:x.binds.length≤1048576) (hl2:x.sess.length≤1048576) (hp:SlIs strL1 1 w pa p.addrs) (hr:BbIs w a b x) :
  Calls Try.prog 6 #[plC pa pc p,bbC a b ca cb x,.int .i64 proto,.string inn,.int .i64 port] w fun e w'=>e=.returned (boC none none 0 0 (portForV p x proto inn port))∧Below w.heap.size w w':=by
 have HB:Hid (Below w.heap.size w (((w.alloc (.cells #[.slice pa p.addrs.length pc,.int .i64 p.low,.int .i64 p.high,.int .i64 p.most,.int .i64 p.filter,.int .i64 p.lv.udp,.int .i64 p.lv.echo,.int .i64 p.lv.opening,.int .i64 p.lv.opn,.int .i64 p.lv.closing] 27)).alloc (.cells #[.slice a x.binds.length ca,.slice b x.sess.length cb] 31)).alloc (.cells #[.slice none 0 0,.slice none 0 0,.int .i64 0,.string ⟨#[]⟩,.int .i64 0,.string ⟨#[]⟩,.int .i64 0,.int .i64 0] 37))):=(((Below.refl _ _).alloc (Nat.le_refl _) _).alloc (by simp) _).alloc (by simp; omega) _;have H0:=((HoldsL.new w [.slice pa p.addrs.length pc,.int .i64 p.low,.int .i64 p.high,.int .i64 p.most,.int .i64 p.filter,.int .i64 p.lv.udp,.int .i64 p.lv.echo,.int .i64 p.lv.opening,.int .i64 p.lv.opn,.int .i64 p.lv.closing] 27).alloc (.cells #[.slice a x.binds.length ca,.slice b x.sess.length cb] 31)).alloc (.cells #[.slice none 0 0,.slice none 0 0,.int .i64 0,.string ⟨#[]⟩,.int .i64 0,.string ⟨#[]⟩,.int .i64 0,.int .i64 0] 37);have H1:=(HoldsL.new (w.alloc (.cells #[.slice pa p.addrs.length pc,.int .i64 p.low,.int .i64 p.high,.int .i64 p.most,.int .i64 p.filter,.int .i64 p.lv.udp,.int .i64 p.lv.echo,.int .i64 p.lv.opening,.int .i64 p.lv.opn,.int .i64 p.lv.closing] 27)) [.slice a x.binds.length ca,.slice b x.sess.length cb] 31).alloc (.cells #[.slice none 0 0,.slice none 0 0,.int .i64 0,.string ⟨#[]⟩,.int .i64 0,.string ⟨#[]⟩,.int .i64 0,.int .i64 0] 37);have H2:=HoldsL.new ((w.alloc (.cells #[.slice pa p.addrs.length pc,.int .i64 p.low,.int .i64 p.high,.int .i64 p.most,.int .i64 p.filter,.int .i64 p.lv.udp,.int .i64 p.lv.echo,.int .i64 p.lv.opening,.int .i64 p.lv.opn,.int .i64 p.lv.closing] 27)).alloc (.cells #[.slice a x.binds.length ca,.slice b x.sess.length cb] 31)) [.slice none 0 0,.slice none 0 0,.int .i64 0,.string ⟨#[]⟩,.int .i64 0,.string ⟨#[]⟩,.int .i64 0,.int .i64 0] 37;rw [World.size_alloc] at H1 H2;rw [World.size_alloc] at H2;have HBR:Hid (∀ W,Below w.heap.size w W→Calls Try.prog 20 #[plC pa pc p,bbC a b ca cb x] W fun e w'=>e=.returned (.bool (bibOk p x))∧Below W.heap.size W w'):=fun W hW=>specBib_any p x pa pc a b ca cb W hlp hpc hsz hl1 hl2 (hp.below hW) (hr.below hW)
 have HPR:Hid (∀ W,Calls Try.prog 21 #[.int .i64 proto] W fun e w'=>e=.returned (.bool (protoB proto))∧w'=W):=fun W=>spBProto_any _ W
 have HAR:Hid (∀ W,Calls Try.prog 22 #[.string inn] W fun e w'=>e=.returned (.bool (addrOk inn))∧w'=W):=fun W=>specAddrRight_any _ W
 have HWD:Hid (∀ W,Calls Try.prog 23 #[.int .i64 port] W fun e w'=>e=.returned (.bool (isW port))∧w'=W):=fun W=>specWordIs_any _ W
 have HPT:Hid (bibOk p x=true→isW port=true→∀ W,Below w.heap.size w W→Calls Try.prog 24 #[plC pa pc p,bbC a b ca cb x,.int .i64 proto,.string inn,.int .i64 port] W fun e w'=>e=.returned (.tuple #[bdC (lendV p x.binds proto inn port).1,.int .i64 (lendV p x.binds proto inn port).2])∧Below W.heap.size W w'):=fun hb hw W hW=>by
  have h1:poolOk p=true:=by unfold bibOk at hb; simp only [Bool.and_eq_true] at hb; exact hb.1.1.1.1.1
  unfold isW at hw;simp only [Bool.and_eq_true,decide_eq_true_iff] at hw;exact spPort_any p x pa pc a b ca cb proto inn port W h1 hin hw.1 hw.2 hl1 hl2 (hp.below hW) (hr.below hW)
 obtain ⟨ans,hans⟩ : ∃ y,y=portForV p x proto inn port:=⟨_,rfl⟩;rw [← hans];have HA:Hid (ans=portForV p x proto inn port):=hans;have G0:Hid _:=H0;have G1:Hid _:=H1;have G2:Hid _:=H2;unfold plC bbC at HBR HPT ⊢;clear hp hr H0 H1 H2 hans;go_enter Try.func6,Try.ntmps6
 go_upto_region 1 with fail
 generalize ((w.alloc (.cells #[.slice pa p.addrs.length pc,.int .i64 p.low,.int .i64 p.high,.int .i64 p.most,.int .i64 p.filter,.int .i64 p.lv.udp,.int .i64 p.lv.echo,.int .i64 p.lv.opening,.int .i64 p.lv.opn,.int .i64 p.lv.closing] 27)).alloc (.cells #[.slice a x.binds.length ca,.slice b x.sess.length cb] 31)).alloc (.cells #[.slice none 0 0,.slice none 0 0,.int .i64 0,.string ⟨#[]⟩,.int .i64 0,.string ⟨#[]⟩,.int .i64 0,.int .i64 0] 37)=W3 at *;have BG2:Hid (Below w.heap.size w W3):=HB.out;by_cases hbig:20000 < inn.size
 ·have HAN:Hid (ans=⟨bbZ,bdZ,2⟩):=by unfold Hid; rw [HA.out]; unfold portForV; rw [if_pos hbig]
  have hbI:(20000:Int) < (inn.size:Int):=by omega
  obtain ⟨r0,r1,r2,r3,r4,r5,r6,r7⟩:=G2.out.c8;obtain ⟨f0,f1,f2,f3,f4,f5,f6,f7⟩:=G2.out.f8;have T1:Hid _:=((((((((G2.out.set 0 (.slice none 0 0)).set 1 (.slice none 0 0)).set 2 (.int .i64 0)).set 3 (.string ⟨#[]⟩)).set 4 (.int .i64 0)).set 5 (.string ⟨#[]⟩)).set 6 (.int .i64 0)).set 7 (.int .i64 2));have T2:Hid _:=((((((((BG2.out.setCell (p:=⟨w.heap.size+1+1,0,none⟩) (by show w.heap.size≤w.heap.size+1+1; omega) (.slice none 0 0)).setCell (p:=⟨w.heap.size+1+1,1,none⟩) (by show w.heap.size≤w.heap.size+1+1; omega) (.slice none 0 0)).setCell (p:=⟨w.heap.size+1+1,2,none⟩) (by show w.heap.size≤w.heap.size+1+1; omega) (.int .i64 0)).setCell (p:=⟨w.heap.size+1+1,3,none⟩) (by show w.heap.size≤w.heap.size+1+1; omega) (.string ⟨#[]⟩)).setCell (p:=⟨w.heap.size+1+1,4,none⟩) (by show w.heap.size≤w.heap.size+1+1; omega) (.int .i64 0)).setCell (p:=⟨w.heap.size+1+1,5,none⟩) (by show w.heap.size≤w.heap.size+1+1; omega) (.string ⟨#[]⟩)).setCell (p:=⟨w.heap.size+1+1,6,none⟩) (by show w.heap.size≤w.heap.size+1+1; omega) (.int .i64 0)).setCell (p:=⟨w.heap.size+1+1,7,none⟩) (by show w.heap.size≤w.heap.size+1+1; omega) (.int .i64 2));go_wp2_with fail
  have u0:=T1.out.cell (j:=0) (v:=.slice none 0 0) rfl;have u1:=T1.out.cell (j:=1) (v:=.slice none 0 0) rfl;have u2:=T1.out.cell (j:=2) (v:=.int .i64 0) rfl;have u3:=T1.out.cell (j:=3) (v:=.string ⟨#[]⟩) rfl;have u4:=T1.out.cell (j:=4) (v:=.int .i64 0) rfl;have u5:=T1.out.cell (j:=5) (v:=.string ⟨#[]⟩) rfl;have u6:=T1.out.cell (j:=6) (v:=.int .i64 0) rfl;have u7:=T1.out.cell (j:=7) (v:=.int .i64 2) rfl;refine bodyPost_ret (v:=.agg #[.slice none 0 0,.slice none 0 0,.int .i64 0,.string ⟨#[]⟩,.int .i64 0,.string ⟨#[]⟩,.int .i64 0,.int .i64 2]) (by simp [results,Try.results6,go_sem,u0,u1,u2,u3,u4,u5,u6,u7]) rfl ?_;exact ⟨by rw [HAN.out]; rfl,T2.out⟩
 ·have hbI:¬ (20000:Int) < (inn.size:Int):=by omega
  have HAN:Hid (ans=if (bibOk p x&&protoB proto&&addrOk inn&&isW port)=true then ⟨bbZ,(lendV p x.binds proto inn port).1,(lendV p x.binds proto inn port).2⟩ else ⟨bbZ,bdZ,1⟩):=by unfold Hid; rw [HA.out]; unfold portForV; rw [if_neg hbig]
  go_upto_region 3 with fail
  go_cut [35] (fun v wx=>v=.bool (!(bibOk p x&&protoB proto&&addrOk inn&&isW port))∧Below W3.heap.size W3 wx)
  case first =>
   have hun:undef=Value.tuple #[]:=rfl;obtain ⟨z0,z1,z2,z3,z4,z5,z6,z7,z8,z9⟩:=G0.out.c10;obtain ⟨k0,k1⟩:=G1.out.c2;go_wp2_with fail
   refine (HBR.out _ HB.out).mono ?_;rintro e w1 ⟨rfl,q1⟩;have Q1:Hid _:=q1;clear q1
   cases hb1:bibOk p x with
   | false =>
    go_wp2_with fail
    go_meet;exact ⟨by rw [hb1]; rfl,Q1.out⟩
   | true =>
    go_wp2_with fail
    refine (HPR.out _).mono ?_;rintro e w2 ⟨rfl,rfl⟩
    cases hb2:protoB proto with
    | false =>
     go_wp2_with fail
     go_meet;exact ⟨by rw [hb1,hb2]; rfl,Q1.out⟩
    | true =>
     go_wp2_with fail
     refine (HAR.out _).mono ?_;rintro e w2 ⟨rfl,rfl⟩
     cases hb3:addrOk inn with
     | false =>
      go_wp2_with fail
      go_meet;exact ⟨by rw [hb1,hb2,hb3]; rfl,Q1.out⟩
     | true =>
      go_wp2_with fail
      refine (HWD.out _).mono ?_;rintro e w2 ⟨rfl,rfl⟩
      cases hb4:isW port;all_goals
       go_wp2_with fail
       go_meet;exact ⟨by rw [hb1,hb2,hb3,hb4]; rfl,Q1.out⟩
  case rest =>
   obtain ⟨rfl,hQ⟩:=hcut;have K0:Hid _:=G0.out.kept (by simp) hQ;have K1:Hid _:=G1.out.kept (by simp) hQ;have K2:Hid _:=G2.out.kept (by simp) hQ;have BK2:Hid (Below w.heap.size w wc):=HB.out.trans (hQ.mono HB.out.size);clear hQ G0 G1 G2 HB HBR HPR HAR HWD BG2
   cases hok:(bibOk p x&&protoB proto&&addrOk inn&&isW port) with
   | false =>
    rw [hok,if_neg (by decide)] at HAN;obtain ⟨r0,r1,r2,r3,r4,r5,r6,r7⟩:=K2.out.c8;obtain ⟨f0,f1,f2,f3,f4,f5,f6,f7⟩:=K2.out.f8;have T1:Hid _:=((((((((K2.out.set 0 (.slice none 0 0)).set 1 (.slice none 0 0)).set 2 (.int .i64 0)).set 3 (.string ⟨#[]⟩)).set 4 (.int .i64 0)).set 5 (.string ⟨#[]⟩)).set 6 (.int .i64 0)).set 7 (.int .i64 1));have T2:Hid _:=((((((((BK2.out.setCell (p:=⟨w.heap.size+1+1,0,none⟩) (by show w.heap.size≤w.heap.size+1+1; omega) (.slice none 0 0)).setCell (p:=⟨w.heap.size+1+1,1,none⟩) (by show w.heap.size≤w.heap.size+1+1; omega) (.slice none 0 0)).setCell (p:=⟨w.heap.size+1+1,2,none⟩) (by show w.heap.size≤w.heap.size+1+1; omega) (.int .i64 0)).setCell (p:=⟨w.heap.size+1+1,3,none⟩) (by show w.heap.size≤w.heap.size+1+1; omega) (.string ⟨#[]⟩)).setCell (p:=⟨w.heap.size+1+1,4,none⟩) (by show w.heap.size≤w.heap.size+1+1; omega) (.int .i64 0)).setCell (p:=⟨w.heap.size+1+1,5,none⟩) (by show w.heap.size≤w.heap.size+1+1; omega) (.string ⟨#[]⟩)).setCell (p:=⟨w.heap.size+1+1,6,none⟩) (by show w.heap.size≤w.heap.size+1+1; omega) (.int .i64 0)).setCell (p:=⟨w.heap.size+1+1,7,none⟩) (by show w.heap.size≤w.heap.size+1+1; omega) (.int .i64 1));go_wp2_with fail
    have u0:=T1.out.cell (j:=0) (v:=.slice none 0 0) rfl;have u1:=T1.out.cell (j:=1) (v:=.slice none 0 0) rfl;have u2:=T1.out.cell (j:=2) (v:=.int .i64 0) rfl;have u3:=T1.out.cell (j:=3) (v:=.string ⟨#[]⟩) rfl;have u4:=T1.out.cell (j:=4) (v:=.int .i64 0) rfl;have u5:=T1.out.cell (j:=5) (v:=.string ⟨#[]⟩) rfl;have u6:=T1.out.cell (j:=6) (v:=.int .i64 0) rfl;have u7:=T1.out.cell (j:=7) (v:=.int .i64 1) rfl;refine bodyPost_ret (v:=.agg #[.slice none 0 0,.slice none 0 0,.int .i64 0,.string ⟨#[]⟩,.int .i64 0,.string ⟨#[]⟩,.int .i64 0,.int .i64 1]) (by simp [results,Try.results6,go_sem,u0,u1,u2,u3,u4,u5,u6,u7]) rfl ?_;exact ⟨by rw [HAN.out]; rfl,T2.out⟩
   | true =>
    rw [hok,if_pos rfl] at HAN;simp only [Bool.and_eq_true] at hok;have HC:Hid (∀ W,Below w.heap.size w W→Calls Try.prog 24 #[.agg #[.slice pa p.addrs.length pc,.int .i64 p.low,.int .i64 p.high,.int .i64 p.most,.int .i64 p.filter,.int .i64 p.lv.udp,.int .i64 p.lv.echo,.int .i64 p.lv.opening,.int .i64 p.lv.opn,.int .i64 p.lv.closing],.agg #[.slice a x.binds.length ca,.slice b x.sess.length cb],.int .i64 proto,.string inn,.int .i64 port] W fun e w'=>e=.returned (.tuple #[bdC (lendV p x.binds proto inn port).1,.int .i64 (lendV p x.binds proto inn port).2])∧Below W.heap.size W w'):=HPT.out hok.1.1.1 hok.2;clear hok HPT HA;generalize lendV p x.binds proto inn port=ld at *;obtain ⟨q,code⟩:=ld;unfold bdC at HC;dsimp only at HC HAN;obtain ⟨z0,z1,z2,z3,z4,z5,z6,z7,z8,z9⟩:=K0.out.c10;obtain ⟨k0,k1⟩:=K1.out.c2;go_wp2_with fail
    refine (HC.out _ BK2.out).mono ?_;rintro e w1 ⟨rfl,q1⟩;have L2:Hid _:=K2.out.kept (by simp) q1;have BL2:Hid (Below w.heap.size w w1):=BK2.out.trans (q1.mono BK2.out.size);have hlt:w.heap.size+1+1 < w1.heap.size:=L2.out.lt (by simp);have M2:Hid (HoldsL (w1.alloc (.cells #[.int .i64 q.proto,.string q.inn,.int .i64 q.inPort,.string q.out,.int .i64 q.outPort] 35)) (w.heap.size+1+1) [.slice none 0 0,.slice none 0 0,.int .i64 0,.string ⟨#[]⟩,.int .i64 0,.string ⟨#[]⟩,.int .i64 0,.int .i64 0]):=L2.out.alloc _;have BM2:Hid (Below w.heap.size w (w1.alloc (.cells #[.int .i64 q.proto,.string q.inn,.int .i64 q.inPort,.string q.out,.int .i64 q.outPort] 35))):=BL2.out.alloc BL2.out.size _;have NB:Hid (HoldsL (w1.alloc (.cells #[.int .i64 q.proto,.string q.inn,.int .i64 q.inPort,.string q.out,.int .i64 q.outPort] 35)) w1.heap.size (bdL q)):=HoldsL.new w1 (bdL q) 35;clear q1 k0 k1 z0 z1 z2 z3 z4 z5 z6 z7 z8 z9;go_upto_region 6 with fail
    generalize w1.alloc (.cells #[.int .i64 q.proto,.string q.inn,.int .i64 q.inPort,.string q.out,.int .i64 q.outPort] 35)=WN at *;obtain ⟨n0,n1,n2,n3,n4⟩:=NB.out.c5;obtain ⟨r0,r1,r2,r3,r4,r5,r6,r7⟩:=M2.out.c8;obtain ⟨f0,f1,f2,f3,f4,f5,f6,f7⟩:=M2.out.f8;have T1:Hid _:=((((((((M2.out.set 0 (.slice none 0 0)).set 1 (.slice none 0 0)).set 2 (.int .i64 q.proto)).set 3 (.string q.inn)).set 4 (.int .i64 q.inPort)).set 5 (.string q.out)).set 6 (.int .i64 q.outPort)).set 7 (.int .i64 code));have T2:Hid _:=((((((((BM2.out.setCell (p:=⟨w.heap.size+1+1,0,none⟩) (by show w.heap.size≤w.heap.size+1+1; omega) (.slice none 0 0)).setCell (p:=⟨w.heap.size+1+1,1,none⟩) (by show w.heap.size≤w.heap.size+1+1; omega) (.slice none 0 0)).setCell (p:=⟨w.heap.size+1+1,2,none⟩) (by show w.heap.size≤w.heap.size+1+1; omega) (.int .i64 q.proto)).setCell (p:=⟨w.heap.size+1+1,3,none⟩) (by show w.heap.size≤w.heap.size+1+1; omega) (.string q.inn)).setCell (p:=⟨w.heap.size+1+1,4,none⟩) (by show w.heap.size≤w.heap.size+1+1; omega) (.int .i64 q.inPort)).setCell (p:=⟨w.heap.size+1+1,5,none⟩) (by show w.heap.size≤w.heap.size+1+1; omega) (.string q.out)).setCell (p:=⟨w.heap.size+1+1,6,none⟩) (by show w.heap.size≤w.heap.size+1+1; omega) (.int .i64 q.outPort)).setCell (p:=⟨w.heap.size+1+1,7,none⟩) (by show w.heap.size≤w.heap.size+1+1; omega) (.int .i64 code));go_wp2_with fail
    have u0:=T1.out.cell (j:=0) (v:=.slice none 0 0) rfl;have u1:=T1.out.cell (j:=1) (v:=.slice none 0 0) rfl;have u2:=T1.out.cell (j:=2) (v:=.int .i64 q.proto) rfl;have u3:=T1.out.cell (j:=3) (v:=.string q.inn) rfl;have u4:=T1.out.cell (j:=4) (v:=.int .i64 q.inPort) rfl;have u5:=T1.out.cell (j:=5) (v:=.string q.out) rfl;have u6:=T1.out.cell (j:=6) (v:=.int .i64 q.outPort) rfl;have u7:=T1.out.cell (j:=7) (v:=.int .i64 code) rfl;refine bodyPost_ret (v:=.agg #[.slice none 0 0,.slice none 0 0,.int .i64 q.proto,.string q.inn,.int .i64 q.inPort,.string q.out,.int .i64 q.outPort,.int .i64 code]) (by simp [results,Try.results6,go_sem,u0,u1,u2,u3,u4,u5,u6,u7]) rfl ?_;exact ⟨by rw [HAN.out]; rfl,T2.out⟩
end Go.Proofs.Ytjpdljkjalnmhaa
