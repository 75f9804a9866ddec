import Derived.Test.YtcckaeppiamebaaGreatDoorMerged11
set_option linter.unusedVariables false
set_option linter.unusedSimpArgs false
set_option maxRecDepth 100000
set_option maxHeartbeats 8000000
namespace Go.Proofs.YtcckaeppiamebaaGreatDoor
open Go.RowKit Go.PlainAid
theorem spSession_any (x:Bb) (c:Bd) (peer:ByteArray) (port:Int) (ba bo:Option Addr) (ca cb:Nat) (w:World) (hl2:x.sess.length≤1048576) (hr:BbIs w ba bo x) :
  Calls Tryz.prog 125 #[bbC ba bo ca cb x,bdC c,.string peer,.int .i64 port] w fun e w'=>e=.returned (.int .i64 (findI (withP c peer port) x.sess))∧Below w.heap.size w w':=by
 have HZ0:Hid (Below w.heap.size w ((w.alloc (.cells #[.slice ba x.binds.length ca,.slice bo x.sess.length cb] 39)).alloc (.cells #[.int .i64 c.proto,.string c.inn,.int .i64 c.inPort,.string c.out,.int .i64 c.outPort] 94))):=((Below.refl _ _).alloc (Nat.le_refl _) _).alloc (by simp) _;have HB:Hid (HoldsL ((w.alloc (.cells #[.slice ba x.binds.length ca,.slice bo x.sess.length cb] 39)).alloc (.cells #[.int .i64 c.proto,.string c.inn,.int .i64 c.inPort,.string c.out,.int .i64 c.outPort] 94)) w.heap.size [.slice ba x.binds.length ca,.slice bo x.sess.length cb]):=(HoldsL.new w [.slice ba x.binds.length ca,.slice bo x.sess.length cb] 39).alloc _;have HC:Hid (HoldsL ((w.alloc (.cells #[.slice ba x.binds.length ca,.slice bo x.sess.length cb] 39)).alloc (.cells #[.int .i64 c.proto,.string c.inn,.int .i64 c.inPort,.string c.out,.int .i64 c.outPort] 94)) (w.heap.size+1) [.int .i64 c.proto,.string c.inn,.int .i64 c.inPort,.string c.out,.int .i64 c.outPort]):=by
  have h:=HoldsL.new (w.alloc (.cells #[.slice ba x.binds.length ca,.slice bo x.sess.length cb] 39)) [.int .i64 c.proto,.string c.inn,.int .i64 c.inPort,.string c.out,.int .i64 c.outPort] 94;rw [World.size_alloc] at h; exact h
 have HR:Hid (BbIs w ba bo x):=hr;obtain ⟨ans,hans⟩ : ∃ y,y=findI (withP c peer port) x.sess:=⟨_,rfl⟩;have HA:Hid (ans=findI (withP c peer port) x.sess):=hans;rw [← hans];have hun:undef=Value.tuple #[]:=rfl;clear hr hans;unfold bbC bdC;go_enter Tryz.func125,Tryz.ntmps125
 go_upto_region 1 with fail
 generalize (w.alloc (.cells #[.slice ba x.binds.length ca,.slice bo x.sess.length cb] 39)).alloc (.cells #[.int .i64 c.proto,.string c.inn,.int .i64 c.inPort,.string c.out,.int .i64 c.outPort] 94)=W0 at *;go_wp2_with fail
 go_loopw [9] (fun iv wr=>∃ i:Nat,i≤x.sess.length∧iv=.int .i64 i∧(x.sess.take i).any (withP c peer port)=false∧HoldsL wr w.heap.size [.slice ba x.binds.length ca,.slice bo x.sess.length cb]∧HoldsL wr (w.heap.size+1) [.int .i64 c.proto,.string c.inn,.int .i64 c.inPort,.string c.out,.int .i64 c.outPort]∧Below w.heap.size w wr) (fun iv _=>x.sess.length-(intOf iv).toNat)
 case atStart=>exact ⟨0,Nat.zero_le _,rfl,by simp,HB.out,HC.out,HZ0.out⟩
 case round =>
  obtain ⟨i,hi,rfl,hn,hB,hC,hb0⟩:=hrel;have HN:Hid ((x.sess.take i).any (withP c peer port)=false):=hn;have HBr:Hid _:=hB;have HCr:Hid _:=hC;have HW:Hid (Below w.heap.size w wr):=hb0;clear hn hB hC hb0 HB HC HZ0;generalize wr=w1 at *;have z1:=HBr.out.cell (j:=1) rfl;by_cases hlt:i < x.sess.length
  ·obtain ⟨bb,off,rfl,hb,hat⟩:=HR.out.ss.at hlt;have hA:=(hat.below hb HW.out) i hlt;have HT:Hid _:=any_take (withP c peer port) x.sess i hlt;have HF:Hid (withP c peer port x.sess[i]=true→findI (withP c peer port) x.sess=i):=fun h=>findI_at _ x.sess i hlt HN.out h
   obtain ⟨s,hs⟩ : ∃ s,s=x.sess[i]:=⟨_,rfl⟩;rw [← hs] at hA HT HF;have HPV:Hid (withP c peer port s=(hasS c s&&decide (s.peer.toList=peer.toList)&&decide (s.peerPort=port))):=rfl;have hltI:(i:Int) < (x.sess.length:Int):=by omega
   have s0:w1.cell? ⟨bb,off+i*7,none⟩=some (.int .i64 s.proto):=hA 0 _ rfl;have s1:w1.cell? ⟨bb,off+i*7+1,none⟩=some (.string s.inn):=hA 1 _ rfl;have s2:w1.cell? ⟨bb,off+i*7+2,none⟩=some (.int .i64 s.inPort):=hA 2 _ rfl;have s3:w1.cell? ⟨bb,off+i*7+3,none⟩=some (.string s.peer):=hA 3 _ rfl;have s4:w1.cell? ⟨bb,off+i*7+4,none⟩=some (.int .i64 s.peerPort):=hA 4 _ rfl;have s5:w1.cell? ⟨bb,off+i*7+5,none⟩=some (.int .i64 s.state):=hA 5 _ rfl;have s6:w1.cell? ⟨bb,off+i*7+6,none⟩=some (.int .i64 s.untl):=hA 6 _ rfl;clear hA hat hs hb;have HH:Hid (∀ W,Calls Tryz.prog 78 #[.agg #[.int .i64 c.proto,.string c.inn,.int .i64 c.inPort,.string c.out,.int .i64 c.outPort],.agg #[.int .i64 s.proto,.string s.inn,.int .i64 s.inPort,.string s.peer,.int .i64 s.peerPort,.int .i64 s.state,.int .i64 s.untl]] W fun e w'=>e=.returned (.bool (hasS c s))∧Below W.heap.size W w'):=fun W=>spHas_any c s W
   generalize withP c peer port s=pv at *;generalize hasS c s=hv at *;go_upto_region 5 with fail
   have bn:Below w1.heap.size w1 (w1.alloc (.cells #[.int .i64 s.proto,.string s.inn,.int .i64 s.inPort,.string s.peer,.int .i64 s.peerPort,.int .i64 s.state,.int .i64 s.untl] 103)):=(Below.refl _ _).alloc (Nat.le_refl _) _;have hn:HoldsL (w1.alloc (.cells #[.int .i64 s.proto,.string s.inn,.int .i64 s.inPort,.string s.peer,.int .i64 s.peerPort,.int .i64 s.state,.int .i64 s.untl] 103)) w1.heap.size [.int .i64 s.proto,.string s.inn,.int .i64 s.inPort,.string s.peer,.int .i64 s.peerPort,.int .i64 s.state,.int .i64 s.untl]:=HoldsL.new w1 [.int .i64 s.proto,.string s.inn,.int .i64 s.inPort,.string s.peer,.int .i64 s.peerPort,.int .i64 s.state,.int .i64 s.untl] 103;have HB2:Hid _:=HBr.out.kept (by simp) bn;have HC2:Hid _:=HCr.out.kept (by simp) bn;have HW2:Hid (Below w.heap.size w (w1.alloc (.cells #[.int .i64 s.proto,.string s.inn,.int .i64 s.inPort,.string s.peer,.int .i64 s.peerPort,.int .i64 s.state,.int .i64 s.untl] 103))):=HW.out.trans (bn.mono HW.out.size);have HS2:Hid _:=hn;generalize w1.alloc (.cells #[.int .i64 s.proto,.string s.inn,.int .i64 s.inPort,.string s.peer,.int .i64 s.peerPort,.int .i64 s.state,.int .i64 s.untl] 103)=W2 at *;clear bn hn HBr HCr HW z1 s0 s1 s2 s3 s4 s5 s6;generalize w1.heap.size=Bs at *;obtain ⟨c0,c1,c2,c3,c4⟩:=HC2.out.c5;obtain ⟨s0,s1,s2,s3,s4,s5,s6⟩:=HS2.out.c7;go_wp2_with fail
   refine (HH.out _).mono ?_;rintro e w3 ⟨rfl,q3⟩;have HB3:Hid _:=HB2.out.kept (by simp) q3;have HC3:Hid _:=HC2.out.kept (by simp) q3;have HS3:Hid _:=HS2.out.kept (by simp) q3;have HW3:Hid (Below w.heap.size w w3):=HW2.out.trans (q3.mono HW2.out.size);clear q3 HB2 HC2 HW2 HS2 HH c0 c1 c2 c3 c4 s0 s1 s2 s3 s4 s5 s6;obtain ⟨-,-,-,s3,s4⟩:=HS3.out.c5
   cases hv with
   | false =>
    have HX:Hid (pv=false):=by unfold Hid; rw [HPV.out]; rfl
    have HN2:Hid ((x.sess.take (i+1)).any (withP c peer port)=false):=by unfold Hid; rw [HT.out,HN.out,HX.out]; rfl
    go_wp2_with fail
    go_roundw
    case rel =>
     first | exact ⟨i+1,by omega,by go_num,HN2.out,HB3.out,HC3.out,HW3.out⟩ | ((repeat apply Exists.intro); exact ⟨⟨i+1,by omega,by go_num,HN2.out,HB3.out,HC3.out,HW3.out⟩,rfl⟩)
    case measure=>simp [intOf]<;>omega
   | true =>
   by_cases h1:s.peer.toList=peer.toList
   case neg =>
    have e1:(s.peer.toList==peer.toList)=false:=by simp [h1]
    have HX:Hid (pv=false):=by unfold Hid; rw [HPV.out,decide_eq_false h1]; rfl
    clear h1;have HN2:Hid ((x.sess.take (i+1)).any (withP c peer port)=false):=by unfold Hid; rw [HT.out,HN.out,HX.out]; rfl
    go_wp2_with fail
    go_roundw
    case rel =>
     first | exact ⟨i+1,by omega,by go_num,HN2.out,HB3.out,HC3.out,HW3.out⟩ | ((repeat apply Exists.intro); exact ⟨⟨i+1,by omega,by go_num,HN2.out,HB3.out,HC3.out,HW3.out⟩,rfl⟩)
    case measure=>simp [intOf]<;>omega
   have e1:(s.peer.toList==peer.toList)=true:=by simp [h1]
   by_cases h2:s.peerPort=port
   case neg =>
    have e2:(s.peerPort==port)=false:=by simp [h2]
    have HX:Hid (pv=false):=by unfold Hid; rw [HPV.out,decide_eq_false h2]; simp
    clear h1;have HN2:Hid ((x.sess.take (i+1)).any (withP c peer port)=false):=by unfold Hid; rw [HT.out,HN.out,HX.out]; rfl
    go_wp2_with fail
    go_roundw
    case rel =>
     first | exact ⟨i+1,by omega,by go_num,HN2.out,HB3.out,HC3.out,HW3.out⟩ | ((repeat apply Exists.intro); exact ⟨⟨i+1,by omega,by go_num,HN2.out,HB3.out,HC3.out,HW3.out⟩,rfl⟩)
    case measure=>simp [intOf]<;>omega
   have e2:(s.peerPort==port)=true:=by simp [h2]
   have HX:Hid ((i:Int)=ans):=by unfold Hid; rw [HA.out,HF.out (by rw [HPV.out,decide_eq_true h1,decide_eq_true h2]; rfl)]
   clear h1 h2;go_wp2_with fail
   go_ret;exact ⟨ret_int HX.out,HW3.out⟩
  ·have hie:i=x.sess.length:=by omega
   have HX:Hid ((-1:Int)=ans):=by unfold Hid; have:=HN.out; rw [hie,List.take_length] at this; rw [HA.out,findI_no _ _ this]
   have hge:¬ (i:Int) < (x.sess.length:Int):=by omega
   clear hie hlt;go_wp2_with fail
   go_ret;exact ⟨ret_int HX.out,HW.out⟩
theorem spKnows_any (x:Bb) (c:Bd) (peer:ByteArray) (ba bo:Option Addr) (ca cb:Nat) (w:World) (hl2:x.sess.length≤1048576) (hr:BbIs w ba bo x) :
  Calls Tryz.prog 126 #[bbC ba bo ca cb x,bdC c,.string peer] w fun e w'=>e=.returned (.bool (x.sess.any (withA c peer)))∧Below w.heap.size w w':=by
 have HZ0:Hid (Below w.heap.size w ((w.alloc (.cells #[.slice ba x.binds.length ca,.slice bo x.sess.length cb] 39)).alloc (.cells #[.int .i64 c.proto,.string c.inn,.int .i64 c.inPort,.string c.out,.int .i64 c.outPort] 94))):=((Below.refl _ _).alloc (Nat.le_refl _) _).alloc (by simp) _;have HB:Hid (HoldsL ((w.alloc (.cells #[.slice ba x.binds.length ca,.slice bo x.sess.length cb] 39)).alloc (.cells #[.int .i64 c.proto,.string c.inn,.int .i64 c.inPort,.string c.out,.int .i64 c.outPort] 94)) w.heap.size [.slice ba x.binds.length ca,.slice bo x.sess.length cb]):=(HoldsL.new w [.slice ba x.binds.length ca,.slice bo x.sess.length cb] 39).alloc _;have HC:Hid (HoldsL ((w.alloc (.cells #[.slice ba x.binds.length ca,.slice bo x.sess.length cb] 39)).alloc (.cells #[.int .i64 c.proto,.string c.inn,.int .i64 c.inPort,.string c.out,.int .i64 c.outPort] 94)) (w.heap.size+1) [.int .i64 c.proto,.string c.inn,.int .i64 c.inPort,.string c.out,.int .i64 c.outPort]):=by
  have h:=HoldsL.new (w.alloc (.cells #[.slice ba x.binds.length ca,.slice bo x.sess.length cb] 39)) [.int .i64 c.proto,.string c.inn,.int .i64 c.inPort,.string c.out,.int .i64 c.outPort] 94;rw [World.size_alloc] at h; exact h
 have HR:Hid (BbIs w ba bo x):=hr;obtain ⟨ans,hans⟩ : ∃ y,y=x.sess.any (withA c peer):=⟨_,rfl⟩;have HA:Hid (ans=x.sess.any (withA c peer)):=hans;rw [← hans];clear hr hans;unfold bbC bdC;go_enter Tryz.func126,Tryz.ntmps126
 go_upto_region 1 with fail
 generalize (w.alloc (.cells #[.slice ba x.binds.length ca,.slice bo x.sess.length cb] 39)).alloc (.cells #[.int .i64 c.proto,.string c.inn,.int .i64 c.inPort,.string c.out,.int .i64 c.outPort] 94)=W0 at *;go_wp2_with fail
 go_loopw [7] (fun iv wr=>∃ i:Nat,i≤x.sess.length∧iv=.int .i64 i∧(x.sess.take i).any (withA c peer)=false∧HoldsL wr w.heap.size [.slice ba x.binds.length ca,.slice bo x.sess.length cb]∧HoldsL wr (w.heap.size+1) [.int .i64 c.proto,.string c.inn,.int .i64 c.inPort,.string c.out,.int .i64 c.outPort]∧Below w.heap.size w wr) (fun iv _=>x.sess.length-(intOf iv).toNat)
 case atStart=>exact ⟨0,Nat.zero_le _,rfl,by simp,HB.out,HC.out,HZ0.out⟩
 case round =>
  obtain ⟨i,hi,rfl,hn,hB,hC,hb0⟩:=hrel;have HN:Hid ((x.sess.take i).any (withA c peer)=false):=hn;have HBr:Hid _:=hB;have HCr:Hid _:=hC;have HW:Hid (Below w.heap.size w wr):=hb0;clear hn hB hC hb0 HB HC HZ0;generalize wr=w1 at *;have z1:=HBr.out.cell (j:=1) rfl;by_cases hlt:i < x.sess.length
  ·obtain ⟨bb,off,rfl,hb,hat⟩:=HR.out.ss.at hlt;have HAT:Hid (∀ W,Below w.heap.size w W→W.rangeAt bb (off+i*7) (ssL x.sess[i])):=fun W hW=>(hat.below hb hW) i hlt
   have HT:Hid _:=any_take (withA c peer) x.sess i hlt;have HF:Hid (withA c peer x.sess[i]=true→x.sess.any (withA c peer)=true):=any_at _ x.sess i hlt;obtain ⟨s,hs⟩ : ∃ s,s=x.sess[i]:=⟨_,rfl⟩;rw [← hs] at HAT HT HF;have HPV:Hid (withA c peer s=(hasS c s&&decide (s.peer.toList=peer.toList))):=rfl;have hltI:(i:Int) < (x.sess.length:Int):=by omega
   have HH:Hid (∀ W,Calls Tryz.prog 78 #[.agg #[.int .i64 c.proto,.string c.inn,.int .i64 c.inPort,.string c.out,.int .i64 c.outPort],.agg #[.int .i64 s.proto,.string s.inn,.int .i64 s.inPort,.string s.peer,.int .i64 s.peerPort,.int .i64 s.state,.int .i64 s.untl]] W fun e w'=>e=.returned (.bool (hasS c s))∧Below W.heap.size W w'):=fun W=>spHas_any c s W
   generalize withA c peer s=pv at *;generalize hasS c s=hv at *;clear hat hs hb;go_upto_region 4 with fail
   clear z1;go_cut [31] (fun v wx=>v=.bool pv∧Below w1.heap.size w1 wx)
   case first =>
    rename_i J K2 hJ hK2;have HCP:Hid (∀ wy,Below w1.drew.heap.size w1.drew wy→HoldsL wy w.heap.size [.slice ba x.binds.length ca,.slice (some ⟨bb,off,none⟩) x.sess.length cb]∧HoldsL wy (w.heap.size+1) [.int .i64 c.proto,.string c.inn,.int .i64 c.inPort,.string c.out,.int .i64 c.outPort]∧Below w.heap.size w wy):=fun wy hy=>⟨HBr.out.drew.kept (by simp) hy,HCr.out.drew.kept (by simp) hy,HW.out.drew.trans (hy.mono HW.out.size)⟩
    cases hv with
    | false =>
     refine wp_region_growH [15,16,17,18,19,20,21,22,23,24,25,26,27,28,29,30,31] (by kernel_rfl) (by kernel_rfl) ?_;apply GCh.v0
     ·rfl
     ·intro K' a wy ho hd hb2 hK kz;have o4:=ho 4 (by decide);simp [slot] at o4;clear hd ho;obtain ⟨hB,hC,hbw⟩:=HCP.out wy hb2;have hA:=HAT.out wy hbw;obtain ⟨k0,k1⟩:=hB.c2;obtain ⟨c0,c1,c2,c3,c4⟩:=hC.c5;have s0:wy.cell? ⟨bb,off+i*7,none⟩=some (.int .i64 s.proto):=hA 0 _ rfl;have s1:wy.cell? ⟨bb,off+i*7+1,none⟩=some (.string s.inn):=hA 1 _ rfl;have s2:wy.cell? ⟨bb,off+i*7+2,none⟩=some (.int .i64 s.inPort):=hA 2 _ rfl;have s3:wy.cell? ⟨bb,off+i*7+3,none⟩=some (.string s.peer):=hA 3 _ rfl;have s4:wy.cell? ⟨bb,off+i*7+4,none⟩=some (.int .i64 s.peerPort):=hA 4 _ rfl;have s5:wy.cell? ⟨bb,off+i*7+5,none⟩=some (.int .i64 s.state):=hA 5 _ rfl;have s6:wy.cell? ⟨bb,off+i*7+6,none⟩=some (.int .i64 s.untl):=hA 6 _ rfl;go_simp;try go_bits
      exact kz _ rfl
     apply GCh.v1
     ·rfl
     ·intro K' a wy ho hd hb2 hK kz;have o3:=ho 3 (by decide);simp [slot] at o3;clear hd ho;go_simp;try go_bits
      exact kz _ rfl
     apply GCh.v2
     ·rfl
     ·intro K' a wy ho hd hb2 hK kz;have q1:=hd ⟨1,.data⟩ (by simp) rfl;simp [rAt,IsV,slot] at q1;clear hd ho;obtain ⟨hB,hC,hbw⟩:=HCP.out wy hb2;have hA:=HAT.out wy hbw;obtain ⟨k0,k1⟩:=hB.c2;obtain ⟨c0,c1,c2,c3,c4⟩:=hC.c5;have s0:wy.cell? ⟨bb,off+i*7,none⟩=some (.int .i64 s.proto):=hA 0 _ rfl;have s1:wy.cell? ⟨bb,off+i*7+1,none⟩=some (.string s.inn):=hA 1 _ rfl;have s2:wy.cell? ⟨bb,off+i*7+2,none⟩=some (.int .i64 s.inPort):=hA 2 _ rfl;have s3:wy.cell? ⟨bb,off+i*7+3,none⟩=some (.string s.peer):=hA 3 _ rfl;have s4:wy.cell? ⟨bb,off+i*7+4,none⟩=some (.int .i64 s.peerPort):=hA 4 _ rfl;have s5:wy.cell? ⟨bb,off+i*7+5,none⟩=some (.int .i64 s.state):=hA 5 _ rfl;have s6:wy.cell? ⟨bb,off+i*7+6,none⟩=some (.int .i64 s.untl):=hA 6 _ rfl;go_simp;try go_bits
      exact kz _ rfl
     apply GCh.v3
     ·rfl
     ·intro K' a wy ho hd hb2 hK kz;have o7:=ho 7 (by decide);simp [slot] at o7;clear hd ho;go_simp;try go_bits
      exact kz _ rfl
     apply GCh.v4
     ·rfl
     ·intro K' a wy ho hd hb2 hK kz;have q2:=hd ⟨2,.data⟩ (by simp) rfl;simp [rAt,IsV,slot] at q2;have q3:=hd ⟨3,.data⟩ (by simp) rfl;simp [rAt,IsV,slot] at q3;clear hd ho;go_simp;try go_bits
      exact kz _ rfl
     apply GCh.v5
     ·rfl
     ·intro K' a wy ho hd hb2 hK kz;have q4:=hd ⟨4,.data⟩ (by simp) rfl;simp [rAt,IsV,slot] at q4;clear hd ho;obtain ⟨hB,hC,hbw⟩:=HCP.out wy hb2;have hA:=HAT.out wy hbw;obtain ⟨k0,k1⟩:=hB.c2;obtain ⟨c0,c1,c2,c3,c4⟩:=hC.c5;have s0:wy.cell? ⟨bb,off+i*7,none⟩=some (.int .i64 s.proto):=hA 0 _ rfl;have s1:wy.cell? ⟨bb,off+i*7+1,none⟩=some (.string s.inn):=hA 1 _ rfl;have s2:wy.cell? ⟨bb,off+i*7+2,none⟩=some (.int .i64 s.inPort):=hA 2 _ rfl;have s3:wy.cell? ⟨bb,off+i*7+3,none⟩=some (.string s.peer):=hA 3 _ rfl;have s4:wy.cell? ⟨bb,off+i*7+4,none⟩=some (.int .i64 s.peerPort):=hA 4 _ rfl;have s5:wy.cell? ⟨bb,off+i*7+5,none⟩=some (.int .i64 s.state):=hA 5 _ rfl;have s6:wy.cell? ⟨bb,off+i*7+6,none⟩=some (.int .i64 s.untl):=hA 6 _ rfl;go_simp;try go_bits
      exact kz _ rfl
     apply GCh.v6
     ·rfl
     ·intro K' a wy ho hd hb2 hK kz;have q0:=hd ⟨0,.data⟩ (by simp) rfl;simp [rAt,IsV,slot] at q0;have q5:=hd ⟨5,.data⟩ (by simp) rfl;simp [rAt,IsV,slot] at q5;clear hd ho;go_simp;refine (HH.out wy).mono ?_;rintro e wz ⟨rfl,hz⟩;exact hK _ _ rfl hz
     apply GCh.v7
     ·rfl
     ·intro K' a wy ho hd hb2 hK kz;have q6:=hd ⟨6,.data⟩ (by simp) rfl;simp [rAt,IsV,slot] at q6;clear hd ho;go_simp;try go_bits
      exact kz _ rfl
     refine GCh.val (n:=8) (fun v=>[_,_,_,_,_,_,_,_,IsV v]) (fun _=>rfl) rfl ?_;apply Exists.intro;refine And.intro ?_ ?_
     ·intro K' a wy ho hd hb2 hK;refine wantsN 7 22 false true rfl rfl rfl (hd ⟨7,.guard⟩ (by simp) rfl) rfl ?_;exact hK undef _ rfl (Below.refl _ _)
     refine GCh.val (n:=9) (fun v=>[_,_,_,_,_,_,_,_,_,IsV v]) (fun _=>rfl) rfl ?_;apply Exists.intro;refine And.intro ?_ ?_
     ·intro K' a wy ho hd hb2 hK;refine wantsN 7 22 false true rfl rfl rfl (hd ⟨7,.guard⟩ (by simp) rfl) rfl ?_;exact hK undef _ rfl (Below.refl _ _)
     refine GCh.val (n:=10) (fun v=>[_,_,_,_,_,_,_,_,_,_,IsV v]) (fun _=>rfl) rfl ?_;apply Exists.intro;refine And.intro ?_ ?_
     ·intro K' a wy ho hd hb2 hK;refine wantsN 7 22 false true rfl rfl rfl (hd ⟨7,.guard⟩ (by simp) rfl) rfl ?_;exact hK undef _ rfl (Below.refl _ _)
     refine GCh.val (n:=11) (fun v=>[_,_,_,_,_,_,_,_,_,_,_,IsV v]) (fun _=>rfl) rfl ?_;apply Exists.intro;refine And.intro ?_ ?_
     ·intro K' a wy ho hd hb2 hK;refine wantsN 7 22 false true rfl rfl rfl (hd ⟨7,.guard⟩ (by simp) rfl) rfl ?_;exact hK undef _ rfl (Below.refl _ _)
     refine GCh.val (n:=12) (fun v=>[_,_,_,_,_,_,_,_,_,_,_,_,IsV v]) (fun _=>rfl) rfl ?_;apply Exists.intro;refine And.intro ?_ ?_
     ·intro K' a wy ho hd hb2 hK;refine wantsN 7 22 false true rfl rfl rfl (hd ⟨7,.guard⟩ (by simp) rfl) rfl ?_;exact hK undef _ rfl (Below.refl _ _)
     refine GCh.val (n:=13) (fun v=>[_,_,_,_,_,_,_,_,_,_,_,_,_,IsV v]) (fun _=>rfl) rfl ?_;apply Exists.intro;refine And.intro ?_ ?_
     ·intro K' a wy ho hd hb2 hK;refine wantsN 7 22 false true rfl rfl rfl (hd ⟨7,.guard⟩ (by simp) rfl) rfl ?_;exact hK undef _ rfl (Below.refl _ _)
     refine GCh.val (n:=14) (fun v=>[_,_,_,_,_,_,_,_,_,_,_,_,_,_,IsV v]) (fun _=>rfl) rfl ?_;apply Exists.intro;refine And.intro ?_ ?_
     ·intro K' a wy ho hd hb2 hK;refine wantsN 7 22 false true rfl rfl rfl (hd ⟨7,.guard⟩ (by simp) rfl) rfl ?_;exact hK undef _ rfl (Below.refl _ _)
     refine GCh.val (n:=15) (fun v=>[_,_,_,_,_,_,_,_,_,_,_,_,_,_,_,IsV v]) (fun _=>rfl) rfl ?_;apply Exists.intro;refine And.intro ?_ ?_
     ·intro K' a wy ho hd hb2 hK;refine wantsN 7 22 false true rfl rfl rfl (hd ⟨7,.guard⟩ (by simp) rfl) rfl ?_;exact hK undef _ rfl (Below.refl _ _)
     apply GCh.v16
     ·rfl
     ·intro K' a wy ho hd hb2 hK kz;have q7:=hd ⟨7,.data⟩ (by simp) rfl;simp [rAt,IsV,slot] at q7;have q15:=hd ⟨15,.data⟩ (by simp) rfl;simp [rAt,IsV,slot] at q15;clear hd ho;go_simp;try go_bits
      exact kz _ rfl
     intro X wz hR hz;obtain ⟨x0,x1,x2,x3,x4,x5,x6,x7,x8,x9,x10,x11,x12,x13,x14,x15,x16,-⟩:=hR;simp only [IsV] at x0 x1 x2 x3 x4 x5 x6 x7 x8 x9 x10 x11 x12 x13 x14 x15 x16;simp only [putsFrom,x0,x1,x2,x3,x4,x5,x6,x7,x8,x9,x10,x11,x12,x13,x14,x15,x16];clear x0 x1 x2 x3 x4 x5 x6 x7 x8 x9 x10 x11 x12 x13 x14 x15 x16;go_simp;refine hK2 _ _ (hJ _ _ ?_);(repeat apply Exists.intro)
     refine ⟨⟨by rw [HPV.out]; simp,(Below.refl _ _).drew.trans hz⟩,rfl⟩
    | true =>
     by_cases h1:s.peer.toList=peer.toList
     ·have e1:(s.peer.toList==peer.toList)=true:=by simp [h1]
      refine wp_region_growH [15,16,17,18,19,20,21,22,23,24,25,26,27,28,29,30,31] (by kernel_rfl) (by kernel_rfl) ?_;apply GCh.v0
      ·rfl
      ·intro K' a wy ho hd hb2 hK kz;have o4:=ho 4 (by decide);simp [slot] at o4;clear hd ho;obtain ⟨hB,hC,hbw⟩:=HCP.out wy hb2;have hA:=HAT.out wy hbw;obtain ⟨k0,k1⟩:=hB.c2;obtain ⟨c0,c1,c2,c3,c4⟩:=hC.c5;have s0:wy.cell? ⟨bb,off+i*7,none⟩=some (.int .i64 s.proto):=hA 0 _ rfl;have s1:wy.cell? ⟨bb,off+i*7+1,none⟩=some (.string s.inn):=hA 1 _ rfl;have s2:wy.cell? ⟨bb,off+i*7+2,none⟩=some (.int .i64 s.inPort):=hA 2 _ rfl;have s3:wy.cell? ⟨bb,off+i*7+3,none⟩=some (.string s.peer):=hA 3 _ rfl;have s4:wy.cell? ⟨bb,off+i*7+4,none⟩=some (.int .i64 s.peerPort):=hA 4 _ rfl;have s5:wy.cell? ⟨bb,off+i*7+5,none⟩=some (.int .i64 s.state):=hA 5 _ rfl;have s6:wy.cell? ⟨bb,off+i*7+6,none⟩=some (.int .i64 s.untl):=hA 6 _ rfl;go_simp;try go_bits
       exact kz _ rfl
      apply GCh.v1
      ·rfl
      ·intro K' a wy ho hd hb2 hK kz;have o3:=ho 3 (by decide);simp [slot] at o3;clear hd ho;go_simp;try go_bits
       exact kz _ rfl
      apply GCh.v2
      ·rfl
      ·intro K' a wy ho hd hb2 hK kz;have q1:=hd ⟨1,.data⟩ (by simp) rfl;simp [rAt,IsV,slot] at q1;clear hd ho;obtain ⟨hB,hC,hbw⟩:=HCP.out wy hb2;have hA:=HAT.out wy hbw;obtain ⟨k0,k1⟩:=hB.c2;obtain ⟨c0,c1,c2,c3,c4⟩:=hC.c5;have s0:wy.cell? ⟨bb,off+i*7,none⟩=some (.int .i64 s.proto):=hA 0 _ rfl;have s1:wy.cell? ⟨bb,off+i*7+1,none⟩=some (.string s.inn):=hA 1 _ rfl;have s2:wy.cell? ⟨bb,off+i*7+2,none⟩=some (.int .i64 s.inPort):=hA 2 _ rfl;have s3:wy.cell? ⟨bb,off+i*7+3,none⟩=some (.string s.peer):=hA 3 _ rfl;have s4:wy.cell? ⟨bb,off+i*7+4,none⟩=some (.int .i64 s.peerPort):=hA 4 _ rfl;have s5:wy.cell? ⟨bb,off+i*7+5,none⟩=some (.int .i64 s.state):=hA 5 _ rfl;have s6:wy.cell? ⟨bb,off+i*7+6,none⟩=some (.int .i64 s.untl):=hA 6 _ rfl;go_simp;try go_bits
       exact kz _ rfl
      apply GCh.v3
      ·rfl
      ·intro K' a wy ho hd hb2 hK kz;have o7:=ho 7 (by decide);simp [slot] at o7;clear hd ho;go_simp;try go_bits
       exact kz _ rfl
      apply GCh.v4
      ·rfl
      ·intro K' a wy ho hd hb2 hK kz;have q2:=hd ⟨2,.data⟩ (by simp) rfl;simp [rAt,IsV,slot] at q2;have q3:=hd ⟨3,.data⟩ (by simp) rfl;simp [rAt,IsV,slot] at q3;clear hd ho;go_simp;try go_bits
       exact kz _ rfl
      apply GCh.v5
      ·rfl
      ·intro K' a wy ho hd hb2 hK kz;have q4:=hd ⟨4,.data⟩ (by simp) rfl;simp [rAt,IsV,slot] at q4;clear hd ho;obtain ⟨hB,hC,hbw⟩:=HCP.out wy hb2;have hA:=HAT.out wy hbw;obtain ⟨k0,k1⟩:=hB.c2;obtain ⟨c0,c1,c2,c3,c4⟩:=hC.c5;have s0:wy.cell? ⟨bb,off+i*7,none⟩=some (.int .i64 s.proto):=hA 0 _ rfl;have s1:wy.cell? ⟨bb,off+i*7+1,none⟩=some (.string s.inn):=hA 1 _ rfl;have s2:wy.cell? ⟨bb,off+i*7+2,none⟩=some (.int .i64 s.inPort):=hA 2 _ rfl;have s3:wy.cell? ⟨bb,off+i*7+3,none⟩=some (.string s.peer):=hA 3 _ rfl;have s4:wy.cell? ⟨bb,off+i*7+4,none⟩=some (.int .i64 s.peerPort):=hA 4 _ rfl;have s5:wy.cell? ⟨bb,off+i*7+5,none⟩=some (.int .i64 s.state):=hA 5 _ rfl;have s6:wy.cell? ⟨bb,off+i*7+6,none⟩=some (.int .i64 s.untl):=hA 6 _ rfl;go_simp;try go_bits
       exact kz _ rfl
      apply GCh.v6
      ·rfl
      ·intro K' a wy ho hd hb2 hK kz;have q0:=hd ⟨0,.data⟩ (by simp) rfl;simp [rAt,IsV,slot] at q0;have q5:=hd ⟨5,.data⟩ (by simp) rfl;simp [rAt,IsV,slot] at q5;clear hd ho;go_simp;refine (HH.out wy).mono ?_;rintro e wz ⟨rfl,hz⟩;exact hK _ _ rfl hz
      apply GCh.v7
      ·rfl
      ·intro K' a wy ho hd hb2 hK kz;have q6:=hd ⟨6,.data⟩ (by simp) rfl;simp [rAt,IsV,slot] at q6;clear hd ho;go_simp;try go_bits
       exact kz _ rfl
      refine GCh.val (n:=8) (fun v=>[_,_,_,_,_,_,_,_,IsV v]) (fun _=>rfl) rfl ?_;apply Exists.intro;refine And.intro ?_ ?_
      ·intro K' a wy ho hd hb2 hK;refine wants 7 22 true true rfl rfl rfl (hd ⟨7,.guard⟩ (by simp) rfl) rfl ?_;have o3:=ho 3 (by decide);simp [slot] at o3;clear hd ho;go_simp;try go_bits
       exact hK _ _ rfl (Below.refl _ _)
      refine GCh.val (n:=9) (fun v=>[_,_,_,_,_,_,_,_,_,IsV v]) (fun _=>rfl) rfl ?_;apply Exists.intro;refine And.intro ?_ ?_
      ·intro K' a wy ho hd hb2 hK;refine wants 7 22 true true rfl rfl rfl (hd ⟨7,.guard⟩ (by simp) rfl) rfl ?_;have q8:=hd ⟨8,.data⟩ (by simp) rfl;simp [rAt,IsV,slot] at q8;clear hd ho;obtain ⟨hB,hC,hbw⟩:=HCP.out wy hb2;have hA:=HAT.out wy hbw;obtain ⟨k0,k1⟩:=hB.c2;obtain ⟨c0,c1,c2,c3,c4⟩:=hC.c5;have s0:wy.cell? ⟨bb,off+i*7,none⟩=some (.int .i64 s.proto):=hA 0 _ rfl;have s1:wy.cell? ⟨bb,off+i*7+1,none⟩=some (.string s.inn):=hA 1 _ rfl;have s2:wy.cell? ⟨bb,off+i*7+2,none⟩=some (.int .i64 s.inPort):=hA 2 _ rfl;have s3:wy.cell? ⟨bb,off+i*7+3,none⟩=some (.string s.peer):=hA 3 _ rfl;have s4:wy.cell? ⟨bb,off+i*7+4,none⟩=some (.int .i64 s.peerPort):=hA 4 _ rfl;have s5:wy.cell? ⟨bb,off+i*7+5,none⟩=some (.int .i64 s.state):=hA 5 _ rfl;have s6:wy.cell? ⟨bb,off+i*7+6,none⟩=some (.int .i64 s.untl):=hA 6 _ rfl;go_simp;try go_bits
       exact hK _ _ rfl (Below.refl _ _)
      refine GCh.val (n:=10) (fun v=>[_,_,_,_,_,_,_,_,_,_,IsV v]) (fun _=>rfl) rfl ?_;apply Exists.intro;refine And.intro ?_ ?_
      ·intro K' a wy ho hd hb2 hK;refine wants 7 22 true true rfl rfl rfl (hd ⟨7,.guard⟩ (by simp) rfl) rfl ?_;have o7:=ho 7 (by decide);simp [slot] at o7;clear hd ho;go_simp;try go_bits
       exact hK _ _ rfl (Below.refl _ _)
      refine GCh.val (n:=11) (fun v=>[_,_,_,_,_,_,_,_,_,_,_,IsV v]) (fun _=>rfl) rfl ?_;apply Exists.intro;refine And.intro ?_ ?_
      ·intro K' a wy ho hd hb2 hK;refine wants 7 22 true true rfl rfl rfl (hd ⟨7,.guard⟩ (by simp) rfl) rfl ?_;have q9:=hd ⟨9,.data⟩ (by simp) rfl;simp [rAt,IsV,slot] at q9;have q10:=hd ⟨10,.data⟩ (by simp) rfl;simp [rAt,IsV,slot] at q10;clear hd ho;go_simp;try go_bits
       exact hK _ _ rfl (Below.refl _ _)
      refine GCh.val (n:=12) (fun v=>[_,_,_,_,_,_,_,_,_,_,_,_,IsV v]) (fun _=>rfl) rfl ?_;apply Exists.intro;refine And.intro ?_ ?_
      ·intro K' a wy ho hd hb2 hK;refine wants 7 22 true true rfl rfl rfl (hd ⟨7,.guard⟩ (by simp) rfl) rfl ?_;have q11:=hd ⟨11,.data⟩ (by simp) rfl;simp [rAt,IsV,slot] at q11;clear hd ho;go_simp;try go_bits
       exact hK _ _ rfl (Below.refl _ _)
      refine GCh.val (n:=13) (fun v=>[_,_,_,_,_,_,_,_,_,_,_,_,_,IsV v]) (fun _=>rfl) rfl ?_;apply Exists.intro;refine And.intro ?_ ?_
      ·intro K' a wy ho hd hb2 hK;refine wants 7 22 true true rfl rfl rfl (hd ⟨7,.guard⟩ (by simp) rfl) rfl ?_;have q12:=hd ⟨12,.data⟩ (by simp) rfl;simp [rAt,IsV,slot] at q12;clear hd ho;obtain ⟨hB,hC,hbw⟩:=HCP.out wy hb2;have hA:=HAT.out wy hbw;obtain ⟨k0,k1⟩:=hB.c2;obtain ⟨c0,c1,c2,c3,c4⟩:=hC.c5;have s0:wy.cell? ⟨bb,off+i*7,none⟩=some (.int .i64 s.proto):=hA 0 _ rfl;have s1:wy.cell? ⟨bb,off+i*7+1,none⟩=some (.string s.inn):=hA 1 _ rfl;have s2:wy.cell? ⟨bb,off+i*7+2,none⟩=some (.int .i64 s.inPort):=hA 2 _ rfl;have s3:wy.cell? ⟨bb,off+i*7+3,none⟩=some (.string s.peer):=hA 3 _ rfl;have s4:wy.cell? ⟨bb,off+i*7+4,none⟩=some (.int .i64 s.peerPort):=hA 4 _ rfl;have s5:wy.cell? ⟨bb,off+i*7+5,none⟩=some (.int .i64 s.state):=hA 5 _ rfl;have s6:wy.cell? ⟨bb,off+i*7+6,none⟩=some (.int .i64 s.untl):=hA 6 _ rfl;go_simp;try go_bits
       exact hK _ _ rfl (Below.refl _ _)
      refine GCh.val (n:=14) (fun v=>[_,_,_,_,_,_,_,_,_,_,_,_,_,_,IsV v]) (fun _=>rfl) rfl ?_;apply Exists.intro;refine And.intro ?_ ?_
      ·intro K' a wy ho hd hb2 hK;refine wants 7 22 true true rfl rfl rfl (hd ⟨7,.guard⟩ (by simp) rfl) rfl ?_;have o2:=ho 2 (by decide);simp [slot] at o2;clear hd ho;go_simp;try go_bits
       exact hK _ _ rfl (Below.refl _ _)
      refine GCh.val (n:=15) (fun v=>[_,_,_,_,_,_,_,_,_,_,_,_,_,_,_,IsV v]) (fun _=>rfl) rfl ?_;apply Exists.intro;refine And.intro ?_ ?_
      ·intro K' a wy ho hd hb2 hK;refine wants 7 22 true true rfl rfl rfl (hd ⟨7,.guard⟩ (by simp) rfl) rfl ?_;have q13:=hd ⟨13,.data⟩ (by simp) rfl;simp [rAt,IsV,slot] at q13;have q14:=hd ⟨14,.data⟩ (by simp) rfl;simp [rAt,IsV,slot] at q14;clear hd ho;go_simp;try go_bits
       exact hK _ _ rfl (Below.refl _ _)
      apply GCh.v16
      ·rfl
      ·intro K' a wy ho hd hb2 hK kz;have q7:=hd ⟨7,.data⟩ (by simp) rfl;simp [rAt,IsV,slot] at q7;have q15:=hd ⟨15,.data⟩ (by simp) rfl;simp [rAt,IsV,slot] at q15;clear hd ho;go_simp;try go_bits
       exact kz _ rfl
      intro X wz hR hz;obtain ⟨x0,x1,x2,x3,x4,x5,x6,x7,x8,x9,x10,x11,x12,x13,x14,x15,x16,-⟩:=hR;simp only [IsV] at x0 x1 x2 x3 x4 x5 x6 x7 x8 x9 x10 x11 x12 x13 x14 x15 x16;simp only [putsFrom,x0,x1,x2,x3,x4,x5,x6,x7,x8,x9,x10,x11,x12,x13,x14,x15,x16];clear x0 x1 x2 x3 x4 x5 x6 x7 x8 x9 x10 x11 x12 x13 x14 x15 x16;go_simp;refine hK2 _ _ (hJ _ _ ?_);(repeat apply Exists.intro)
      refine ⟨⟨by rw [HPV.out]; simp [h1],(Below.refl _ _).drew.trans hz⟩,rfl⟩
     ·have e1:(s.peer.toList==peer.toList)=false:=by simp [h1]
      refine wp_region_growH [15,16,17,18,19,20,21,22,23,24,25,26,27,28,29,30,31] (by kernel_rfl) (by kernel_rfl) ?_;apply GCh.v0
      ·rfl
      ·intro K' a wy ho hd hb2 hK kz;have o4:=ho 4 (by decide);simp [slot] at o4;clear hd ho;obtain ⟨hB,hC,hbw⟩:=HCP.out wy hb2;have hA:=HAT.out wy hbw;obtain ⟨k0,k1⟩:=hB.c2;obtain ⟨c0,c1,c2,c3,c4⟩:=hC.c5;have s0:wy.cell? ⟨bb,off+i*7,none⟩=some (.int .i64 s.proto):=hA 0 _ rfl;have s1:wy.cell? ⟨bb,off+i*7+1,none⟩=some (.string s.inn):=hA 1 _ rfl;have s2:wy.cell? ⟨bb,off+i*7+2,none⟩=some (.int .i64 s.inPort):=hA 2 _ rfl;have s3:wy.cell? ⟨bb,off+i*7+3,none⟩=some (.string s.peer):=hA 3 _ rfl;have s4:wy.cell? ⟨bb,off+i*7+4,none⟩=some (.int .i64 s.peerPort):=hA 4 _ rfl;have s5:wy.cell? ⟨bb,off+i*7+5,none⟩=some (.int .i64 s.state):=hA 5 _ rfl;have s6:wy.cell? ⟨bb,off+i*7+6,none⟩=some (.int .i64 s.untl):=hA 6 _ rfl;go_simp;try go_bits
       exact kz _ rfl
      apply GCh.v1
      ·rfl
      ·intro K' a wy ho hd hb2 hK kz;have o3:=ho 3 (by decide);simp [slot] at o3;clear hd ho;go_simp;try go_bits
       exact kz _ rfl
      apply GCh.v2
      ·rfl
      ·intro K' a wy ho hd hb2 hK kz;have q1:=hd ⟨1,.data⟩ (by simp) rfl;simp [rAt,IsV,slot] at q1;clear hd ho;obtain ⟨hB,hC,hbw⟩:=HCP.out wy hb2;have hA:=HAT.out wy hbw;obtain ⟨k0,k1⟩:=hB.c2;obtain ⟨c0,c1,c2,c3,c4⟩:=hC.c5;have s0:wy.cell? ⟨bb,off+i*7,none⟩=some (.int .i64 s.proto):=hA 0 _ rfl;have s1:wy.cell? ⟨bb,off+i*7+1,none⟩=some (.string s.inn):=hA 1 _ rfl;have s2:wy.cell? ⟨bb,off+i*7+2,none⟩=some (.int .i64 s.inPort):=hA 2 _ rfl;have s3:wy.cell? ⟨bb,off+i*7+3,none⟩=some (.string s.peer):=hA 3 _ rfl;have s4:wy.cell? ⟨bb,off+i*7+4,none⟩=some (.int .i64 s.peerPort):=hA 4 _ rfl;have s5:wy.cell? ⟨bb,off+i*7+5,none⟩=some (.int .i64 s.state):=hA 5 _ rfl;have s6:wy.cell? ⟨bb,off+i*7+6,none⟩=some (.int .i64 s.untl):=hA 6 _ rfl;go_simp;try go_bits
       exact kz _ rfl
      apply GCh.v3
      ·rfl
      ·intro K' a wy ho hd hb2 hK kz;have o7:=ho 7 (by decide);simp [slot] at o7;clear hd ho;go_simp;try go_bits
       exact kz _ rfl
      apply GCh.v4
      ·rfl
      ·intro K' a wy ho hd hb2 hK kz;have q2:=hd ⟨2,.data⟩ (by simp) rfl;simp [rAt,IsV,slot] at q2;have q3:=hd ⟨3,.data⟩ (by simp) rfl;simp [rAt,IsV,slot] at q3;clear hd ho;go_simp;try go_bits
       exact kz _ rfl
      apply GCh.v5
      ·rfl
      ·intro K' a wy ho hd hb2 hK kz;have q4:=hd ⟨4,.data⟩ (by simp) rfl;simp [rAt,IsV,slot] at q4;clear hd ho;obtain ⟨hB,hC,hbw⟩:=HCP.out wy hb2;have hA:=HAT.out wy hbw;obtain ⟨k0,k1⟩:=hB.c2;obtain ⟨c0,c1,c2,c3,c4⟩:=hC.c5;have s0:wy.cell? ⟨bb,off+i*7,none⟩=some (.int .i64 s.proto):=hA 0 _ rfl;have s1:wy.cell? ⟨bb,off+i*7+1,none⟩=some (.string s.inn):=hA 1 _ rfl;have s2:wy.cell? ⟨bb,off+i*7+2,none⟩=some (.int .i64 s.inPort):=hA 2 _ rfl;have s3:wy.cell? ⟨bb,off+i*7+3,none⟩=some (.string s.peer):=hA 3 _ rfl;have s4:wy.cell? ⟨bb,off+i*7+4,none⟩=some (.int .i64 s.peerPort):=hA 4 _ rfl;have s5:wy.cell? ⟨bb,off+i*7+5,none⟩=some (.int .i64 s.state):=hA 5 _ rfl;have s6:wy.cell? ⟨bb,off+i*7+6,none⟩=some (.int .i64 s.untl):=hA 6 _ rfl;go_simp;try go_bits
       exact kz _ rfl
      apply GCh.v6
      ·rfl
      ·intro K' a wy ho hd hb2 hK kz;have q0:=hd ⟨0,.data⟩ (by simp) rfl;simp [rAt,IsV,slot] at q0;have q5:=hd ⟨5,.data⟩ (by simp) rfl;simp [rAt,IsV,slot] at q5;clear hd ho;go_simp;refine (HH.out wy).mono ?_;rintro e wz ⟨rfl,hz⟩;exact hK _ _ rfl hz
      apply GCh.v7
      ·rfl
      ·intro K' a wy ho hd hb2 hK kz;have q6:=hd ⟨6,.data⟩ (by simp) rfl;simp [rAt,IsV,slot] at q6;clear hd ho;go_simp;try go_bits
       exact kz _ rfl
      refine GCh.val (n:=8) (fun v=>[_,_,_,_,_,_,_,_,IsV v]) (fun _=>rfl) rfl ?_;apply Exists.intro;refine And.intro ?_ ?_
      ·intro K' a wy ho hd hb2 hK;refine wants 7 22 true true rfl rfl rfl (hd ⟨7,.guard⟩ (by simp) rfl) rfl ?_;have o3:=ho 3 (by decide);simp [slot] at o3;clear hd ho;go_simp;try go_bits
       exact hK _ _ rfl (Below.refl _ _)
      refine GCh.val (n:=9) (fun v=>[_,_,_,_,_,_,_,_,_,IsV v]) (fun _=>rfl) rfl ?_;apply Exists.intro;refine And.intro ?_ ?_
      ·intro K' a wy ho hd hb2 hK;refine wants 7 22 true true rfl rfl rfl (hd ⟨7,.guard⟩ (by simp) rfl) rfl ?_;have q8:=hd ⟨8,.data⟩ (by simp) rfl;simp [rAt,IsV,slot] at q8;clear hd ho;obtain ⟨hB,hC,hbw⟩:=HCP.out wy hb2;have hA:=HAT.out wy hbw;obtain ⟨k0,k1⟩:=hB.c2;obtain ⟨c0,c1,c2,c3,c4⟩:=hC.c5;have s0:wy.cell? ⟨bb,off+i*7,none⟩=some (.int .i64 s.proto):=hA 0 _ rfl;have s1:wy.cell? ⟨bb,off+i*7+1,none⟩=some (.string s.inn):=hA 1 _ rfl;have s2:wy.cell? ⟨bb,off+i*7+2,none⟩=some (.int .i64 s.inPort):=hA 2 _ rfl;have s3:wy.cell? ⟨bb,off+i*7+3,none⟩=some (.string s.peer):=hA 3 _ rfl;have s4:wy.cell? ⟨bb,off+i*7+4,none⟩=some (.int .i64 s.peerPort):=hA 4 _ rfl;have s5:wy.cell? ⟨bb,off+i*7+5,none⟩=some (.int .i64 s.state):=hA 5 _ rfl;have s6:wy.cell? ⟨bb,off+i*7+6,none⟩=some (.int .i64 s.untl):=hA 6 _ rfl;go_simp;try go_bits
       exact hK _ _ rfl (Below.refl _ _)
      refine GCh.val (n:=10) (fun v=>[_,_,_,_,_,_,_,_,_,_,IsV v]) (fun _=>rfl) rfl ?_;apply Exists.intro;refine And.intro ?_ ?_
      ·intro K' a wy ho hd hb2 hK;refine wants 7 22 true true rfl rfl rfl (hd ⟨7,.guard⟩ (by simp) rfl) rfl ?_;have o7:=ho 7 (by decide);simp [slot] at o7;clear hd ho;go_simp;try go_bits
       exact hK _ _ rfl (Below.refl _ _)
      refine GCh.val (n:=11) (fun v=>[_,_,_,_,_,_,_,_,_,_,_,IsV v]) (fun _=>rfl) rfl ?_;apply Exists.intro;refine And.intro ?_ ?_
      ·intro K' a wy ho hd hb2 hK;refine wants 7 22 true true rfl rfl rfl (hd ⟨7,.guard⟩ (by simp) rfl) rfl ?_;have q9:=hd ⟨9,.data⟩ (by simp) rfl;simp [rAt,IsV,slot] at q9;have q10:=hd ⟨10,.data⟩ (by simp) rfl;simp [rAt,IsV,slot] at q10;clear hd ho;go_simp;try go_bits
       exact hK _ _ rfl (Below.refl _ _)
      refine GCh.val (n:=12) (fun v=>[_,_,_,_,_,_,_,_,_,_,_,_,IsV v]) (fun _=>rfl) rfl ?_;apply Exists.intro;refine And.intro ?_ ?_
      ·intro K' a wy ho hd hb2 hK;refine wants 7 22 true true rfl rfl rfl (hd ⟨7,.guard⟩ (by simp) rfl) rfl ?_;have q11:=hd ⟨11,.data⟩ (by simp) rfl;simp [rAt,IsV,slot] at q11;clear hd ho;go_simp;try go_bits
       exact hK _ _ rfl (Below.refl _ _)
      refine GCh.val (n:=13) (fun v=>[_,_,_,_,_,_,_,_,_,_,_,_,_,IsV v]) (fun _=>rfl) rfl ?_;apply Exists.intro;refine And.intro ?_ ?_
      ·intro K' a wy ho hd hb2 hK;refine wants 7 22 true true rfl rfl rfl (hd ⟨7,.guard⟩ (by simp) rfl) rfl ?_;have q12:=hd ⟨12,.data⟩ (by simp) rfl;simp [rAt,IsV,slot] at q12;clear hd ho;obtain ⟨hB,hC,hbw⟩:=HCP.out wy hb2;have hA:=HAT.out wy hbw;obtain ⟨k0,k1⟩:=hB.c2;obtain ⟨c0,c1,c2,c3,c4⟩:=hC.c5;have s0:wy.cell? ⟨bb,off+i*7,none⟩=some (.int .i64 s.proto):=hA 0 _ rfl;have s1:wy.cell? ⟨bb,off+i*7+1,none⟩=some (.string s.inn):=hA 1 _ rfl;have s2:wy.cell? ⟨bb,off+i*7+2,none⟩=some (.int .i64 s.inPort):=hA 2 _ rfl;have s3:wy.cell? ⟨bb,off+i*7+3,none⟩=some (.string s.peer):=hA 3 _ rfl;have s4:wy.cell? ⟨bb,off+i*7+4,none⟩=some (.int .i64 s.peerPort):=hA 4 _ rfl;have s5:wy.cell? ⟨bb,off+i*7+5,none⟩=some (.int .i64 s.state):=hA 5 _ rfl;have s6:wy.cell? ⟨bb,off+i*7+6,none⟩=some (.int .i64 s.untl):=hA 6 _ rfl;go_simp;try go_bits
       exact hK _ _ rfl (Below.refl _ _)
      refine GCh.val (n:=14) (fun v=>[_,_,_,_,_,_,_,_,_,_,_,_,_,_,IsV v]) (fun _=>rfl) rfl ?_;apply Exists.intro;refine And.intro ?_ ?_
      ·intro K' a wy ho hd hb2 hK;refine wants 7 22 true true rfl rfl rfl (hd ⟨7,.guard⟩ (by simp) rfl) rfl ?_;have o2:=ho 2 (by decide);simp [slot] at o2;clear hd ho;go_simp;try go_bits
       exact hK _ _ rfl (Below.refl _ _)
      refine GCh.val (n:=15) (fun v=>[_,_,_,_,_,_,_,_,_,_,_,_,_,_,_,IsV v]) (fun _=>rfl) rfl ?_;apply Exists.intro;refine And.intro ?_ ?_
      ·intro K' a wy ho hd hb2 hK;refine wants 7 22 true true rfl rfl rfl (hd ⟨7,.guard⟩ (by simp) rfl) rfl ?_;have q13:=hd ⟨13,.data⟩ (by simp) rfl;simp [rAt,IsV,slot] at q13;have q14:=hd ⟨14,.data⟩ (by simp) rfl;simp [rAt,IsV,slot] at q14;clear hd ho;go_simp;try go_bits
       exact hK _ _ rfl (Below.refl _ _)
      apply GCh.v16
      ·rfl
      ·intro K' a wy ho hd hb2 hK kz;have q7:=hd ⟨7,.data⟩ (by simp) rfl;simp [rAt,IsV,slot] at q7;have q15:=hd ⟨15,.data⟩ (by simp) rfl;simp [rAt,IsV,slot] at q15;clear hd ho;go_simp;try go_bits
       exact kz _ rfl
      intro X wz hR hz;obtain ⟨x0,x1,x2,x3,x4,x5,x6,x7,x8,x9,x10,x11,x12,x13,x14,x15,x16,-⟩:=hR;simp only [IsV] at x0 x1 x2 x3 x4 x5 x6 x7 x8 x9 x10 x11 x12 x13 x14 x15 x16;simp only [putsFrom,x0,x1,x2,x3,x4,x5,x6,x7,x8,x9,x10,x11,x12,x13,x14,x15,x16];clear x0 x1 x2 x3 x4 x5 x6 x7 x8 x9 x10 x11 x12 x13 x14 x15 x16;go_simp;refine hK2 _ _ (hJ _ _ ?_);(repeat apply Exists.intro)
      refine ⟨⟨by rw [HPV.out]; simp [h1],(Below.refl _ _).drew.trans hz⟩,rfl⟩
   case rest =>
   obtain ⟨rfl,qc⟩:=hcut;generalize wc=w3 at *;have HB3:Hid _:=HBr.out.kept (by simp) qc;have HC3:Hid _:=HCr.out.kept (by simp) qc;have HW3:Hid (Below w.heap.size w w3):=HW.out.trans (qc.mono HW.out.size);clear qc HBr HCr HW
   cases pv with
   | true =>
    have HX:Hid (true=ans):=by unfold Hid; rw [HA.out,HF.out rfl]
    go_wp2_with fail
    go_ret;exact ⟨ret_bool HX.out,HW3.out⟩
   | false =>
    have HN2:Hid ((x.sess.take (i+1)).any (withA c peer)=false):=by unfold Hid; rw [HT.out,HN.out]; rfl
    go_wp2_with fail
    go_roundw
    case rel =>
     first | exact ⟨i+1,by omega,by go_num,HN2.out,HB3.out,HC3.out,HW3.out⟩ | ((repeat apply Exists.intro); exact ⟨⟨i+1,by omega,by go_num,HN2.out,HB3.out,HC3.out,HW3.out⟩,rfl⟩)
    case measure=>simp [intOf]<;>omega
  ·have hie:i=x.sess.length:=by omega
   have HX:Hid (false=ans):=by unfold Hid; have:=HN.out; rw [hie,List.take_length] at this; rw [HA.out,this]
   have hge:¬ (i:Int) < (x.sess.length:Int):=by omega
   clear hie hlt;go_wp2_with fail
   go_ret;exact ⟨ret_bool HX.out,HW.out⟩
end Go.Proofs.YtcckaeppiamebaaGreatDoor
