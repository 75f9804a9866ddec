import Derived.Test.YtagbhaalmjpkjaaMerged3
import Derived.Test.YtagbhaalmjpkjaaMerged5
import Derived.Test.YtagbhaalmjpkjaaMerged12
import Derived.Deep.DeepCutAuto
set_option linter.unusedVariables false
set_option linter.unusedSimpArgs false
set_option maxRecDepth 100000
set_option maxHeartbeats 8000000
namespace Go.Proofs.Ytagbhaalmjpkjaa
open Go.RowKit Go.PlainAid
theorem getD_mod (ws:List Int) (k:Nat):(ws.map (· % 65536)).getD k 0=ws.getD k 0 % 65536:=by
 by_cases h:k < ws.length
 ·simp [List.getD,h]
 ·simp [List.getD,h]
theorem layWordsM_any (ws:List Int) (b m cap:Nat) (w:World) (hm:m≤1000) (hb:b < w.heap.size) (hl:ws.length=m)
  (hw:∀ k,0≤ws.getD k 0∧ws.getD k 0≤4294967295) (hc:∀ k,k < m→w.cell? ⟨b,k,none⟩=some (.int .i64 (ws.getD k 0))) :
  Calls Try.prog 65 #[.slice (some ⟨b,0,none⟩) m cap] w fun e w'=>e=.returned (.slice (some ⟨w.heap.size,0,none⟩) (2*m) (2*m)) ∧
   w'.ownsRow w.heap.size 5 1 (.slice (some ⟨w.heap.size,0,none⟩) (2*m) (2*m)) (2*m) ((layL (ws.map (· % 65536))).map (Value.int .u8))∧Below w.heap.size w w':=by
 obtain ⟨i0,hi,hz0,hz1,hz2⟩:=info_parts Try.info5;go_enter Try.func65,Try.ntmps65
 go_wp2_with (at_make; refine wpList_make_own _ rfl _ _ 22 rfl w.heap.size 5 i0 (.int .u8 0) 1 Try.underlying22 hi hz0 hz1 .i64 .i64 _ (2*m) rfl rfl (by omega) (by rw [hz2]; omega) (by unfold maxLen; omega) (Nat.le_refl _) ?_; intro w1 hown hgrow)
 have hbel:Below w.heap.size w w1:=(Below.refl _ _).grown hgrow (Nat.le_refl _) (by simp);clear hgrow;go_loopw [3,12] (fun v i wr=>∃ k:Nat,k≤m∧i=.int .i64 k∧v=.slice (some ⟨w.heap.size,0,none⟩) (2*k) (2*m) ∧
   wr.ownsRow w.heap.size 5 1 (.slice (some ⟨w.heap.size,0,none⟩) (2*k) (2*m)) (2*k) ((layL ((ws.map (· % 65536)).take k)).map (Value.int .u8))∧Below w.heap.size w wr) (fun _ i _=>m-(intOf i).toNat)
 case atStart=>exact ⟨0,Nat.zero_le _,rfl,rfl,by simpa [layL] using hown,hbel⟩
 case round =>
  clear hown hbel;obtain ⟨k,hk,rfl,rfl,hown,hbel⟩:=hrel;by_cases hlt:k < m
  ·have hcx:wr.cell? ⟨b,k,none⟩=some (.int .i64 (ws.getD k 0)):=(hbel.cell (p:=⟨b,k,none⟩) hb).trans (hc k hlt);obtain ⟨n,hn⟩ : ∃ n,n=ws.getD k 0:=⟨_,rfl⟩;have hwn:=hw k;rw [← hn] at hcx hwn;have HN:Hid (n % 65536=(ws.map (· % 65536)).getD k 0):=by unfold Hid; rw [getD_mod,hn]
   have u1:IntKind.u8.wrap (n / 256)=n % 65536 / 256:=by rw [IntKind.wrap_u8]; omega
   have u2:IntKind.u8.wrap n=n % 65536 % 256:=by rw [IntKind.wrap_u8]; omega
   clear hn hw hc;have hsz:=hbel.size;go_wp2_with (at_builtin; refine wpList_append_fits _ rfl (.tmp 16) (.tmp 22) 22 rfl w.heap.size 5 i0 1 Try.underlying22 hi hz1 w.heap.size (2*k) (2*m) _ rfl (hown.alloc _) ⟨wr.heap.size,0,none⟩ 2 2 [.int .u8 (n % 65536 / 256),.int .u8 (n % 65536 % 256)] rfl rfl ?c1 ?c2 (by omega) ?_)
   case c1 =>
    intro j u hj;match j,hj with
    | 0,hj=>simp at hj; subst hj; simp [Addr.add]
    | 1,hj=>simp at hj; subst hj; simp [Addr.add]
   case c2=>intro u hu; simp at hu; rcases hu with rfl | rfl<;>rfl
   ·intro w2 hown2 hgrow2;have hbel2:Below w.heap.size w w2:=(hbel.alloc hsz _).grown hgrow2 (by simp; omega) (by simp);have R:=lay_step HN.out (by simp; omega) (by rw [show n % 65536 % 256=n % 256 by omega]; exact hown2);clear hown2 hgrow2 hown hbel hcx;go_wp2
    go_roundw
    case rel=>exact ⟨k+1,by omega,by go_num,rfl,R,hbel2⟩
    case measure=>simp [intOf]; omega
  ·have hkm:k=m:=by omega
   subst hkm;have R:wr.ownsRow w.heap.size 5 1 (.slice (some ⟨w.heap.size,0,none⟩) (2*k) (2*k)) (2*k) ((layL (ws.map (· % 65536))).map (Value.int .u8)):=by
    rw [List.take_of_length_le (by simp; omega)] at hown; exact hown
   clear hown;go_wp2
   go_ret;exact ⟨rfl,R,hbel⟩
theorem implV6Right_any (p:P6) (w:World) (h1:p.src.size≤1048576) (h2:p.dst.size≤1048576) (h4:p.data.size≤1048576) :
  Calls Try.prog 52 #[p6C p] w fun e w'=>e=.returned (.bool (v6Ok p))∧Below w.heap.size w w':=by
 have HB1:Hid (∀ W,Calls Try.prog 61 #[.int .i64 p.cls] W fun e w'=>e=.returned (.bool (isIn p.cls 0 255))∧w'=W):=fun W=>implByte_any p.cls W
 have HB2:Hid (∀ W,Calls Try.prog 61 #[.int .i64 p.next] W fun e w'=>e=.returned (.bool (isIn p.next 0 255))∧w'=W):=fun W=>implByte_any p.next W
 have HB3:Hid (∀ W,Calls Try.prog 61 #[.int .i64 p.hops] W fun e w'=>e=.returned (.bool (isIn p.hops 0 255))∧w'=W):=fun W=>implByte_any p.hops W
 have HB5:Hid (∀ W,Calls Try.prog 63 #[.int .i64 p.off,.bool p.more,.string p.data,.int .i64 65535] W fun e w'=>e=.returned (.bool (pcV p.off p.more p.data 65535))∧w'=W):=fun W=>implPiece_any p.off p.more p.data 65535 W h4
 have HV:Hid (v6Ok p=_):=v6Ok_prog p;generalize v6Ok p=ok at *;obtain ⟨cls,flow,next,hops,src,dst,piece,more,off,id,data⟩:=p;unfold p6C;dsimp only at *;have HZ:Hid (Below w.heap.size w (w.alloc (.cells #[.int .i64 cls,.int .i64 flow,.int .i64 next,.int .i64 hops,.string src,.string dst,.bool piece,.bool more,.int .i64 off,.int .i64 id,.string data] 43))):=(Below.refl _ _).alloc (Nat.le_refl _) _;generalize isIn cls 0 255=b1 at *;generalize isIn next 0 255=b2 at *;generalize isIn hops 0 255=b3 at *;generalize pcV off more data 65535=b5 at *;go_enter Try.func52,Try.ntmps52
 go_wp2_with fail
 refine (HB1.out _).mono ?_;rintro e w2 ⟨rfl,rfl⟩
 cases b1 with
 | false =>
  have hun:undef=Value.tuple #[]:=rfl;go_wp2_with fail
  go_ret;exact ⟨ret_bool (by rw [HV.out]; simp),HZ.out⟩
 | true =>
  go_wp2_with fail
  refine (HB2.out _).mono ?_;rintro e w2 ⟨rfl,rfl⟩
  cases b2 with
  | false =>
   have hun:undef=Value.tuple #[]:=rfl;go_wp2_with fail
   go_ret;exact ⟨ret_bool (by rw [HV.out]; simp),HZ.out⟩
  | true =>
   go_wp2_with fail
   refine (HB3.out _).mono ?_;rintro e w2 ⟨rfl,rfl⟩
   cases b3 with
   | false =>
    have hun:undef=Value.tuple #[]:=rfl;go_wp2_with fail
    go_ret;exact ⟨ret_bool (by rw [HV.out]; simp),HZ.out⟩
   | true =>
    by_cases s1:0≤flow
    ·have ds1:decide (0≤flow)=true:=by simp<;>omega
     have vs1:decide (0≤flow)=true:=decide_eq_true s1;rw [vs1] at HV;by_cases s2:flow≤1048575
     ·have ds2:decide (flow≤1048575)=true:=by simp<;>omega
      have vs2:decide (flow≤1048575)=true:=decide_eq_true s2;rw [vs2] at HV;by_cases s3:src.size=16
      ·have ds3:((src.size:Int)==16)=true:=by simp<;>omega
       have vs3:decide (src.size=16)=true:=decide_eq_true s3;rw [vs3] at HV;by_cases s4:dst.size=16
       ·have ds4:((dst.size:Int)==16)=true:=by simp<;>omega
        have vs4:decide (dst.size=16)=true:=decide_eq_true s4;rw [vs4] at HV;go_wp2_with fail
        refine (HB5.out _).mono ?_;rintro e w2 ⟨rfl,rfl⟩
        cases b5 with
        | false =>
         have hun:undef=Value.tuple #[]:=rfl;go_wp2_with fail
         go_ret;exact ⟨ret_bool (by rw [HV.out]; simp),HZ.out⟩
        | true =>
         by_cases s5:0≤id
         ·have ds5:decide (0≤id)=true:=by simp<;>omega
          have vs5:decide (0≤id)=true:=decide_eq_true s5;rw [vs5] at HV;by_cases s6:id≤4294967295
          ·have ds6:decide (id≤4294967295)=true:=by simp<;>omega
           have vs6:decide (id≤4294967295)=true:=decide_eq_true s6;rw [vs6] at HV;by_cases t4:next=44
           ·have dt4:(next != 44)=false:=by simp [t4]
            rw [decide_eq_true t4] at HV;clear t4
            cases piece with
            | true =>
             have hun:undef=Value.tuple #[]:=rfl;go_wp2_with fail
             go_ret;exact ⟨ret_bool (by rw [HV.out]; simp),HZ.out⟩
            | false =>
             cases more with
             | true =>
              have hun:undef=Value.tuple #[]:=rfl;go_wp2_with fail
              go_ret;exact ⟨ret_bool (by rw [HV.out]; simp),HZ.out⟩
             | false =>
              by_cases t1:off=0
              ·rw [decide_eq_true t1] at HV;have dt1:(off==0)=true:=by simp [t1]
               clear t1;by_cases t2:id=0
               ·rw [decide_eq_true t2] at HV;have dt2:(id==0)=true:=by simp [t2]
                clear t2;have hun:undef=Value.tuple #[]:=rfl;go_wp2_with fail
                go_ret;exact ⟨ret_bool (by rw [HV.out]; simp),HZ.out⟩
               ·rw [decide_eq_false t2] at HV;have dt2:(id==0)=false:=by simp [t2]
                have hun:undef=Value.tuple #[]:=rfl;go_wp2_with fail
                go_ret;exact ⟨ret_bool (by rw [HV.out]; simp),HZ.out⟩
              ·rw [decide_eq_false t1] at HV;have dt1:(off==0)=false:=by simp [t1]
               have hun:undef=Value.tuple #[]:=rfl;go_wp2_with fail
               go_ret;exact ⟨ret_bool (by rw [HV.out]; simp),HZ.out⟩
           ·have dt4:(next != 44)=true:=by simp [t4]
            rw [decide_eq_false t4] at HV
            cases piece with
            | true =>
             have hun:undef=Value.tuple #[]:=rfl;go_wp2_with fail
             go_ret;exact ⟨ret_bool (by rw [HV.out]; simp),HZ.out⟩
            | false =>
             cases more with
             | true =>
              have hun:undef=Value.tuple #[]:=rfl;go_wp2_with fail
              go_ret;exact ⟨ret_bool (by rw [HV.out]; simp),HZ.out⟩
             | false =>
              by_cases t1:off=0
              ·rw [decide_eq_true t1] at HV;have dt1:(off==0)=true:=by simp [t1]
               clear t1;by_cases t2:id=0
               ·rw [decide_eq_true t2] at HV;have dt2:(id==0)=true:=by simp [t2]
                clear t2;have hun:undef=Value.tuple #[]:=rfl;go_wp2_with fail
                go_ret;exact ⟨ret_bool (by rw [HV.out]; simp),HZ.out⟩
               ·rw [decide_eq_false t2] at HV;have dt2:(id==0)=false:=by simp [t2]
                have hun:undef=Value.tuple #[]:=rfl;go_wp2_with fail
                go_ret;exact ⟨ret_bool (by rw [HV.out]; simp),HZ.out⟩
              ·rw [decide_eq_false t1] at HV;have dt1:(off==0)=false:=by simp [t1]
               have hun:undef=Value.tuple #[]:=rfl;go_wp2_with fail
               go_ret;exact ⟨ret_bool (by rw [HV.out]; simp),HZ.out⟩
          ·have ds6:decide (id≤4294967295)=false:=by simp<;>omega
           have vs6:decide (id≤4294967295)=false:=decide_eq_false s6;rw [vs6] at HV;have hun:undef=Value.tuple #[]:=rfl;go_wp2_with fail
           go_ret;exact ⟨ret_bool (by rw [HV.out]; simp),HZ.out⟩
         ·have ds5:decide (0≤id)=false:=by simp<;>omega
          have vs5:decide (0≤id)=false:=decide_eq_false s5;rw [vs5] at HV;have hun:undef=Value.tuple #[]:=rfl;go_wp2_with fail
          go_ret;exact ⟨ret_bool (by rw [HV.out]; simp),HZ.out⟩
       ·have ds4:((dst.size:Int)==16)=false:=by simp<;>omega
        have vs4:decide (dst.size=16)=false:=decide_eq_false s4;rw [vs4] at HV;have hun:undef=Value.tuple #[]:=rfl;go_wp2_with fail
        go_ret;exact ⟨ret_bool (by rw [HV.out]; simp),HZ.out⟩
      ·have ds3:((src.size:Int)==16)=false:=by simp<;>omega
       have vs3:decide (src.size=16)=false:=decide_eq_false s3;rw [vs3] at HV;have hun:undef=Value.tuple #[]:=rfl;go_wp2_with fail
       go_ret;exact ⟨ret_bool (by rw [HV.out]; simp),HZ.out⟩
     ·have ds2:decide (flow≤1048575)=false:=by simp<;>omega
      have vs2:decide (flow≤1048575)=false:=decide_eq_false s2;rw [vs2] at HV;have hun:undef=Value.tuple #[]:=rfl;go_wp2_with fail
      go_ret;exact ⟨ret_bool (by rw [HV.out]; simp),HZ.out⟩
    ·have ds1:decide (0≤flow)=false:=by simp<;>omega
     have vs1:decide (0≤flow)=false:=decide_eq_false s1;rw [vs1] at HV;have hun:undef=Value.tuple #[]:=rfl;go_wp2_with fail
     go_ret;exact ⟨ret_bool (by rw [HV.out]; simp),HZ.out⟩
theorem implV6Right_sm (p:P6) (w:World) (hs:P6Sm p) (hw:P6Wf p) :
  Calls Try.prog 52 #[p6C p] w fun e w'=>e=.returned (.bool (v6Ok p))∧Below w.heap.size w w':=implV6Right_any p w hs.1 hs.2.1 hs.2.2
end Go.Proofs.Ytagbhaalmjpkjaa
