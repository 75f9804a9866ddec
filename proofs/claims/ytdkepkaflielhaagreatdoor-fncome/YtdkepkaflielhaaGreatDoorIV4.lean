import Derived.Test.YtdkepkaflielhaaGreatDoorSz
import Derived.Test.YtdkepkaflielhaaGreatDoorAb
import Derived.Test.YtdkepkaflielhaaGreatDoorLawV4
import Derived.Test.YtdkepkaflielhaaGreatDoorIV4A
import Derived.Deep.DeepCutAuto
set_option linter.unusedVariables false
set_option linter.unusedSimpArgs false
set_option maxRecDepth 100000
set_option maxHeartbeats 8000000
namespace Go.Proofs.YtdkepkaflielhaaGreatDoor
open Go.RowKit Go.PlainAid
theorem implV4Right_any (p:P4) (w:World) (h1:p.src.size≤1048576) (h2:p.dst.size≤1048576) (h3:p.opts.size≤1048576) (h4:p.data.size≤1048576) :
  Cb 86 #[p4C p] w (.bool (v4Ok p)):=by
 have HB1:Hid (∀ W,Cw 121 #[iV p.tos] W (.bool (isIn p.tos 0 255))):=fun W=>implByte_any p.tos W
 have HB2:Hid (∀ W,Cw 121 #[iV p.ttl] W (.bool (isIn p.ttl 0 255))):=fun W=>implByte_any p.ttl W
 have HB3:Hid (∀ W,Cw 121 #[iV p.proto] W (.bool (isIn p.proto 0 255))):=fun W=>implByte_any p.proto W
 have HB4:Hid (∀ W,Cw 122 #[iV p.id] W (.bool (isIn p.id 0 65535))):=fun W=>implWordIs_any p.id W
 have HB5:Hid (∀ W,Cw 123 #[iV p.off,.bool p.more,.string p.data,iV 65515] W (.bool (pcV p.off p.more p.data 65515))):=fun W=>implPiece_any p.off p.more p.data 65515 W h4
 have HV:Hid (v4Ok p=_):=v4Ok_prog p;generalize v4Ok p=ok at *;obtain ⟨tos,id,whole,more,off,ttl,proto,src,dst,opts,data⟩:=p;unfold p4C;dsimp only at *;have HZ:Hid (Below w.z w (w.alloc (.cells (P4R tos id whole more off ttl proto src dst opts data).toArray 33))):=bR.alloc lR _;generalize isIn tos 0 255=b1 at *;generalize isIn ttl 0 255=b2 at *;generalize isIn proto 0 255=b3 at *;generalize isIn id 0 65535=b4 at *;generalize pcV off more data 65515=b5 at *;go_enter Tryz.func86,Tryz.ntmps86
 go_wp2_with fail
 refine (HB1.out _).mono ?_;rintro e w2 ⟨rfl,rfl⟩
 cases b1 with
 | false =>
  have hun:undef=Value.tuple #[]:=rfl;go_wp2_with fail
  go_ret;exact ⟨ret_bool (by rw [HV.out]; simp),HZ.out⟩
 | true =>
  go_wp2_with fail
  refine (HB2.out _).mono ?_;rintro e w2 ⟨rfl,rfl⟩
  cases b2 with
  | false =>
   have hun:undef=Value.tuple #[]:=rfl;go_wp2_with fail
   go_ret;exact ⟨ret_bool (by rw [HV.out]; simp),HZ.out⟩
  | true =>
   go_wp2_with fail
   refine (HB3.out _).mono ?_;rintro e w2 ⟨rfl,rfl⟩
   cases b3 with
   | false =>
    have hun:undef=Value.tuple #[]:=rfl;go_wp2_with fail
    go_ret;exact ⟨ret_bool (by rw [HV.out]; simp),HZ.out⟩
   | true =>
    go_wp2_with fail
    refine (HB4.out _).mono ?_;rintro e w2 ⟨rfl,rfl⟩
    cases b4 with
    | false =>
     have hun:undef=Value.tuple #[]:=rfl;go_wp2_with fail
     go_ret;exact ⟨ret_bool (by rw [HV.out]; simp),HZ.out⟩
    | true =>
     by_cases s1:src.size=4
     ·have ds1:((src.size:Int)==4)=true:=by simp<;>omega
      have vs1:decide (src.size=4)=true:=decide_eq_true s1;rw [vs1] at HV;by_cases s2:dst.size=4
      ·have ds2:((dst.size:Int)==4)=true:=by simp<;>omega
       have vs2:decide (dst.size=4)=true:=decide_eq_true s2;rw [vs2] at HV;by_cases s3:opts.size≤40
       ·have ds3:decide ((opts.size:Int)≤40)=true:=by simp<;>omega
        have vs3:decide (opts.size≤40)=true:=decide_eq_true s3;rw [vs3] at HV;by_cases s4:opts.size % 4=0
        ·have ds4:(((opts.size:Int) % 4)==0)=true:=by simp<;>omega
         have vs4:decide (opts.size % 4=0)=true:=decide_eq_true s4;rw [vs4] at HV;go_wp2_with fail
         refine (HB5.out _).mono ?_;rintro e w2 ⟨rfl,rfl⟩
         cases b5 with
         | false =>
          have hun:undef=Value.tuple #[]:=rfl;go_wp2_with fail
          go_ret;exact ⟨ret_bool (by rw [HV.out]; simp),HZ.out⟩
         | true =>
          cases whole with
          | false =>
           have hun:undef=Value.tuple #[]:=rfl;go_wp2_with fail
           go_ret;exact ⟨ret_bool (by rw [HV.out]; simp),HZ.out⟩
          | true =>
           cases more with
           | true =>
            have hun:undef=Value.tuple #[]:=rfl;go_wp2_with fail
            go_ret;exact ⟨ret_bool (by rw [HV.out]; simp),HZ.out⟩
           | false =>
            by_cases t1:off=0
            ·rw [decide_eq_true t1] at HV;have dt1:(off != 0)=false:=by simp [t1]
             clear t1;have hun:undef=Value.tuple #[]:=rfl;go_wp2_with fail
             go_ret;exact ⟨ret_bool (by rw [HV.out]; simp),HZ.out⟩
            ·rw [decide_eq_false t1] at HV;have dt1:(off != 0)=true:=by simp [t1]
             have hun:undef=Value.tuple #[]:=rfl;go_wp2_with fail
             go_ret;exact ⟨ret_bool (by rw [HV.out]; simp),HZ.out⟩
        ·have ds4:(((opts.size:Int) % 4)==0)=false:=by simp<;>omega
         have vs4:decide (opts.size % 4=0)=false:=decide_eq_false s4;rw [vs4] at HV;have hun:undef=Value.tuple #[]:=rfl;go_wp2_with fail
         go_ret;exact ⟨ret_bool (by rw [HV.out]; simp),HZ.out⟩
       ·have ds3:decide ((opts.size:Int)≤40)=false:=by simp<;>omega
        have vs3:decide (opts.size≤40)=false:=decide_eq_false s3;rw [vs3] at HV;have hun:undef=Value.tuple #[]:=rfl;go_wp2_with fail
        go_ret;exact ⟨ret_bool (by rw [HV.out]; simp),HZ.out⟩
      ·have ds2:((dst.size:Int)==4)=false:=by simp<;>omega
       have vs2:decide (dst.size=4)=false:=decide_eq_false s2;rw [vs2] at HV;have hun:undef=Value.tuple #[]:=rfl;go_wp2_with fail
       go_ret;exact ⟨ret_bool (by rw [HV.out]; simp),HZ.out⟩
     ·have ds1:((src.size:Int)==4)=false:=by simp<;>omega
      have vs1:decide (src.size=4)=false:=decide_eq_false s1;rw [vs1] at HV;have hun:undef=Value.tuple #[]:=rfl;go_wp2_with fail
      go_ret;exact ⟨ret_bool (by rw [HV.out]; simp),HZ.out⟩
end Go.Proofs.YtdkepkaflielhaaGreatDoor
