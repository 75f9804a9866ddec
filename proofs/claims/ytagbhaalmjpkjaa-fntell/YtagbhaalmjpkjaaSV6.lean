import Derived.Test.YtagbhaalmjpkjaaSV4
set_option linter.unusedVariables false
set_option linter.unusedSimpArgs false
set_option maxRecDepth 100000
set_option maxHeartbeats 8000000
namespace Go.Proofs.Ytagbhaalmjpkjaa
open Go.RowKit Go.PlainAid
theorem specV6Right_any (p:P6) (w:World) (h1:p.src.size≤1048576) (h2:p.dst.size≤1048576) (h4:p.data.size≤1048576) :
  Calls Try.prog 19 #[p6C p] w fun e w'=>e=.returned (.bool (v6Ok p))∧Below w.heap.size w w':=by
 have HB1:Hid (∀ W,Calls Try.prog 41 #[.int .i64 p.cls] W fun e w'=>e=.returned (.bool (isIn p.cls 0 255))∧w'=W):=fun W=>specByte_any p.cls W
 have HB2:Hid (∀ W,Calls Try.prog 41 #[.int .i64 p.next] W fun e w'=>e=.returned (.bool (isIn p.next 0 255))∧w'=W):=fun W=>specByte_any p.next W
 have HB3:Hid (∀ W,Calls Try.prog 41 #[.int .i64 p.hops] W fun e w'=>e=.returned (.bool (isIn p.hops 0 255))∧w'=W):=fun W=>specByte_any p.hops W
 have HB4:Hid (∀ W,Calls Try.prog 29 #[.int .i64 p.flow,.int .i64 0,.int .i64 1048575] W fun e w'=>e=.returned (.bool (isIn p.flow 0 1048575))∧w'=W):=fun W=>specIs_any p.flow 0 1048575 W
 have HB5:Hid (∀ W,Calls Try.prog 29 #[.int .i64 p.off,.int .i64 0,.int .i64 8191] W fun e w'=>e=.returned (.bool (isIn p.off 0 8191))∧w'=W):=fun W=>specIs_any p.off 0 8191 W
 have HB6:Hid (∀ W,Calls Try.prog 29 #[.int .i64 p.id,.int .i64 0,.int .i64 4294967295] W fun e w'=>e=.returned (.bool (isIn p.id 0 4294967295))∧w'=W):=fun W=>specIs_any p.id 0 4294967295 W
 have HO:Hid (isIn p.off 0 8191=true→0≤p.off∧p.off≤8191):=fun h=>isIn_parts h
 have HA:Hid (v6A p=(isIn p.cls 0 255&&isIn p.next 0 255&&isIn p.hops 0 255&&isIn p.flow 0 1048575&&decide (p.src.size=16)&&decide (p.dst.size=16)&&decide (p.data.size≤1400)&&!decide (p.next=44))):=rfl;have HF:Hid (v6A p=false→v6Ok p=false):=fun h=>by unfold v6Ok; rw [h]; rfl
 have HF2:Hid (v6A p=true→v6Ok p=v6B p):=fun h=>by unfold v6Ok; rw [h]; rfl
 have HBB:Hid (v6B p=if p.piece then isIn p.off 0 8191&&isIn p.id 0 4294967295&&(!p.more||decide (p.data.size % 8=0))&&decide (8*p.off+p.data.size≤65535) else !p.more&&decide (p.off=0)&&decide (p.id=0)):=rfl;generalize v6A p=vA at *;generalize v6B p=vB at *;generalize v6Ok p=ok at *;obtain ⟨cls,flow,next,hops,src,dst,piece,more,off,id,data⟩:=p;unfold p6C;dsimp only at *;have HZ:Hid (Below w.heap.size w (w.alloc (.cells #[.int .i64 cls,.int .i64 flow,.int .i64 next,.int .i64 hops,.string src,.string dst,.bool piece,.bool more,.int .i64 off,.int .i64 id,.string data] 43))):=(Below.refl _ _).alloc (Nat.le_refl _) _
 cases b1:isIn cls 0 255 with
 | false =>
  have HV:Hid (ok=false):=HF.out (by rw [HA.out,b1]; simp);rw [b1] at HB1;clear b1 HA HF HF2 HBB HO;go_enter Try.func19,Try.ntmps19
  go_wp2_with fail
  refine (HB1.out _).mono ?_;rintro e w2 ⟨rfl,rfl⟩;go_wp2_with fail
  go_ret;exact ⟨ret_bool HV.out.symm,HZ.out⟩
 | true =>
  rw [b1] at HB1
  cases b2:isIn next 0 255 with
  | false =>
   have HV:Hid (ok=false):=HF.out (by rw [HA.out,b2]; simp);rw [b2] at HB2;clear b2 HA HF HF2 HBB HO;go_enter Try.func19,Try.ntmps19
   go_wp2_with fail
   refine (HB1.out _).mono ?_;rintro e w2 ⟨rfl,rfl⟩;go_wp2_with fail
   refine (HB2.out _).mono ?_;rintro e w2 ⟨rfl,rfl⟩;go_wp2_with fail
   go_ret;exact ⟨ret_bool HV.out.symm,HZ.out⟩
  | true =>
   rw [b2] at HB2
   cases b3:isIn hops 0 255 with
   | false =>
    have HV:Hid (ok=false):=HF.out (by rw [HA.out,b3]; simp);rw [b3] at HB3;clear b3 HA HF HF2 HBB HO;go_enter Try.func19,Try.ntmps19
    go_wp2_with fail
    refine (HB1.out _).mono ?_;rintro e w2 ⟨rfl,rfl⟩;go_wp2_with fail
    refine (HB2.out _).mono ?_;rintro e w2 ⟨rfl,rfl⟩;go_wp2_with fail
    refine (HB3.out _).mono ?_;rintro e w2 ⟨rfl,rfl⟩;go_wp2_with fail
    go_ret;exact ⟨ret_bool HV.out.symm,HZ.out⟩
   | true =>
    rw [b3] at HB3
    cases b4:isIn flow 0 1048575 with
    | false =>
     have HV:Hid (ok=false):=HF.out (by rw [HA.out,b4]; simp);rw [b4] at HB4;clear b4 HA HF HF2 HBB HO;go_enter Try.func19,Try.ntmps19
     go_wp2_with fail
     refine (HB1.out _).mono ?_;rintro e w2 ⟨rfl,rfl⟩;go_wp2_with fail
     refine (HB2.out _).mono ?_;rintro e w2 ⟨rfl,rfl⟩;go_wp2_with fail
     refine (HB3.out _).mono ?_;rintro e w2 ⟨rfl,rfl⟩;go_wp2_with fail
     refine (HB4.out _).mono ?_;rintro e w2 ⟨rfl,rfl⟩;go_wp2_with fail
     go_ret;exact ⟨ret_bool HV.out.symm,HZ.out⟩
    | true =>
     rw [b4] at HB4;by_cases s1:src.size=16
     ·have dT1:((src.size:Int) != 16)=false:=by simp; omega
      by_cases s2:dst.size=16
      ·have dT2:((dst.size:Int) != 16)=false:=by simp; omega
       by_cases s3:data.size≤1400
       ·have dT3:decide ((1400:Int) < (data.size:Int))=false:=by simp; omega
        by_cases s4:next=44
        ·have HV:Hid (ok=false):=HF.out (by rw [HA.out,decide_eq_true s4]; simp);have d4:(next==44)=true:=by simpa using s4
         clear s4 HA HF HF2 HBB HO;go_enter Try.func19,Try.ntmps19
         go_wp2_with fail
         refine (HB1.out _).mono ?_;rintro e w2 ⟨rfl,rfl⟩;go_wp2_with fail
         refine (HB2.out _).mono ?_;rintro e w2 ⟨rfl,rfl⟩;go_wp2_with fail
         refine (HB3.out _).mono ?_;rintro e w2 ⟨rfl,rfl⟩;go_wp2_with fail
         refine (HB4.out _).mono ?_;rintro e w2 ⟨rfl,rfl⟩;go_wp2_with fail
         go_ret;exact ⟨ret_bool HV.out.symm,HZ.out⟩
        ·have d4:(next==44)=false:=by simpa using s4
         have hA:vA=true:=by rw [HA.out,b1,b2,b3,b4,decide_eq_true s1,decide_eq_true s2,decide_eq_true s3,decide_eq_false s4]; rfl
         have HG:Hid (ok=vB):=HF2.out hA;clear hA HA HF HF2 b1 b2 b3 b4 s1 s2 s4
         cases piece with
         | false =>
          have HV:Hid (ok=(!more&&decide (off=0)&&decide (id=0))):=by unfold Hid; rw [HG.out,HBB.out]; rfl
          clear HG HBB HO
          cases more with
          | true =>
           go_enter Try.func19,Try.ntmps19
           go_wp2_with fail
           refine (HB1.out _).mono ?_;rintro e w2 ⟨rfl,rfl⟩;go_wp2_with fail
           refine (HB2.out _).mono ?_;rintro e w2 ⟨rfl,rfl⟩;go_wp2_with fail
           refine (HB3.out _).mono ?_;rintro e w2 ⟨rfl,rfl⟩;go_wp2_with fail
           refine (HB4.out _).mono ?_;rintro e w2 ⟨rfl,rfl⟩;go_wp2_with fail
           go_ret;exact ⟨ret_bool (by rw [HV.out]; rfl),HZ.out⟩
          | false =>
           by_cases o0:off=0
           ·have d5:(off==0)=true:=by simpa using o0
            rw [decide_eq_true o0] at HV;clear o0;go_enter Try.func19,Try.ntmps19
            go_wp2_with fail
            refine (HB1.out _).mono ?_;rintro e w2 ⟨rfl,rfl⟩;go_wp2_with fail
            refine (HB2.out _).mono ?_;rintro e w2 ⟨rfl,rfl⟩;go_wp2_with fail
            refine (HB3.out _).mono ?_;rintro e w2 ⟨rfl,rfl⟩;go_wp2_with fail
            refine (HB4.out _).mono ?_;rintro e w2 ⟨rfl,rfl⟩;go_wp2_with fail
            go_ret;exact ⟨ret_bool (by rw [HV.out]; rfl),HZ.out⟩
           ·have d5:(off==0)=false:=by simpa using o0
            rw [decide_eq_false o0] at HV;clear o0;go_enter Try.func19,Try.ntmps19
            go_wp2_with fail
            refine (HB1.out _).mono ?_;rintro e w2 ⟨rfl,rfl⟩;go_wp2_with fail
            refine (HB2.out _).mono ?_;rintro e w2 ⟨rfl,rfl⟩;go_wp2_with fail
            refine (HB3.out _).mono ?_;rintro e w2 ⟨rfl,rfl⟩;go_wp2_with fail
            refine (HB4.out _).mono ?_;rintro e w2 ⟨rfl,rfl⟩;go_wp2_with fail
            go_ret;exact ⟨ret_bool (by rw [HV.out]; rfl),HZ.out⟩
         | true =>
          have HV:Hid (ok=(isIn off 0 8191&&isIn id 0 4294967295&&(!more||decide (data.size % 8=0))&&decide (8*off+data.size≤65535))):=by unfold Hid; rw [HG.out,HBB.out]; rfl
          clear HG HBB
          cases b5:isIn off 0 8191 with
          | false =>
           rw [b5] at HV HB5;clear b5 HO;go_enter Try.func19,Try.ntmps19
           go_wp2_with fail
           refine (HB1.out _).mono ?_;rintro e w2 ⟨rfl,rfl⟩;go_wp2_with fail
           refine (HB2.out _).mono ?_;rintro e w2 ⟨rfl,rfl⟩;go_wp2_with fail
           refine (HB3.out _).mono ?_;rintro e w2 ⟨rfl,rfl⟩;go_wp2_with fail
           refine (HB4.out _).mono ?_;rintro e w2 ⟨rfl,rfl⟩;go_wp2_with fail
           refine (HB5.out _).mono ?_;rintro e w2 ⟨rfl,rfl⟩;go_wp2_with fail
           go_ret;exact ⟨ret_bool (by rw [HV.out]; rfl),HZ.out⟩
          | true =>
           obtain ⟨o0,o1⟩:=HO.out b5;rw [b5] at HV HB5;clear b5 HO
           cases b6:isIn id 0 4294967295 with
           | false =>
            rw [b6] at HV HB6;clear b6;go_enter Try.func19,Try.ntmps19
            go_wp2_with fail
            refine (HB1.out _).mono ?_;rintro e w2 ⟨rfl,rfl⟩;go_wp2_with fail
            refine (HB2.out _).mono ?_;rintro e w2 ⟨rfl,rfl⟩;go_wp2_with fail
            refine (HB3.out _).mono ?_;rintro e w2 ⟨rfl,rfl⟩;go_wp2_with fail
            refine (HB4.out _).mono ?_;rintro e w2 ⟨rfl,rfl⟩;go_wp2_with fail
            refine (HB5.out _).mono ?_;rintro e w2 ⟨rfl,rfl⟩;go_wp2_with fail
            refine (HB6.out _).mono ?_;rintro e w2 ⟨rfl,rfl⟩;go_wp2_with fail
            go_ret;exact ⟨ret_bool (by rw [HV.out]; rfl),HZ.out⟩
           | true =>
            rw [b6] at HV HB6;clear b6
            cases more with
            | false =>
             go_enter Try.func19,Try.ntmps19
             go_wp2_with fail
             refine (HB1.out _).mono ?_;rintro e w2 ⟨rfl,rfl⟩;go_wp2_with fail
             refine (HB2.out _).mono ?_;rintro e w2 ⟨rfl,rfl⟩;go_wp2_with fail
             refine (HB3.out _).mono ?_;rintro e w2 ⟨rfl,rfl⟩;go_wp2_with fail
             refine (HB4.out _).mono ?_;rintro e w2 ⟨rfl,rfl⟩;go_wp2_with fail
             refine (HB5.out _).mono ?_;rintro e w2 ⟨rfl,rfl⟩;go_wp2_with fail
             refine (HB6.out _).mono ?_;rintro e w2 ⟨rfl,rfl⟩;go_wp2_with fail
             go_ret;exact ⟨ret_bool (by rw [HV.out]; simp),HZ.out⟩
            | true =>
             by_cases e8:data.size % 8=0
             ·have d8:(((data.size:Int) % 8)==0)=true:=by simp; omega
              rw [decide_eq_true e8] at HV;clear e8;go_enter Try.func19,Try.ntmps19
              go_wp2_with fail
              refine (HB1.out _).mono ?_;rintro e w2 ⟨rfl,rfl⟩;go_wp2_with fail
              refine (HB2.out _).mono ?_;rintro e w2 ⟨rfl,rfl⟩;go_wp2_with fail
              refine (HB3.out _).mono ?_;rintro e w2 ⟨rfl,rfl⟩;go_wp2_with fail
              refine (HB4.out _).mono ?_;rintro e w2 ⟨rfl,rfl⟩;go_wp2_with fail
              refine (HB5.out _).mono ?_;rintro e w2 ⟨rfl,rfl⟩;go_wp2_with fail
              refine (HB6.out _).mono ?_;rintro e w2 ⟨rfl,rfl⟩;go_wp2_with fail
              go_ret;exact ⟨ret_bool (by rw [HV.out]; simp),HZ.out⟩
             ·have d8:(((data.size:Int) % 8)==0)=false:=by simp; omega
              rw [decide_eq_false e8] at HV;clear e8;go_enter Try.func19,Try.ntmps19
              go_wp2_with fail
              refine (HB1.out _).mono ?_;rintro e w2 ⟨rfl,rfl⟩;go_wp2_with fail
              refine (HB2.out _).mono ?_;rintro e w2 ⟨rfl,rfl⟩;go_wp2_with fail
              refine (HB3.out _).mono ?_;rintro e w2 ⟨rfl,rfl⟩;go_wp2_with fail
              refine (HB4.out _).mono ?_;rintro e w2 ⟨rfl,rfl⟩;go_wp2_with fail
              refine (HB5.out _).mono ?_;rintro e w2 ⟨rfl,rfl⟩;go_wp2_with fail
              refine (HB6.out _).mono ?_;rintro e w2 ⟨rfl,rfl⟩;go_wp2_with fail
              go_ret;exact ⟨ret_bool (by rw [HV.out]; rfl),HZ.out⟩
       ·have HV:Hid (ok=false):=HF.out (by rw [HA.out,decide_eq_false s3]; simp);have dF3:decide ((1400:Int) < (data.size:Int))=true:=by simp; omega
        clear s3 HA HF HF2 HBB HO;go_enter Try.func19,Try.ntmps19
        go_wp2_with fail
        refine (HB1.out _).mono ?_;rintro e w2 ⟨rfl,rfl⟩;go_wp2_with fail
        refine (HB2.out _).mono ?_;rintro e w2 ⟨rfl,rfl⟩;go_wp2_with fail
        refine (HB3.out _).mono ?_;rintro e w2 ⟨rfl,rfl⟩;go_wp2_with fail
        refine (HB4.out _).mono ?_;rintro e w2 ⟨rfl,rfl⟩;go_wp2_with fail
        go_ret;exact ⟨ret_bool HV.out.symm,HZ.out⟩
      ·have HV:Hid (ok=false):=HF.out (by rw [HA.out,decide_eq_false s2]; simp);have dF2:((dst.size:Int) != 16)=true:=by simp; omega
       clear s2 HA HF HF2 HBB HO;go_enter Try.func19,Try.ntmps19
       go_wp2_with fail
       refine (HB1.out _).mono ?_;rintro e w2 ⟨rfl,rfl⟩;go_wp2_with fail
       refine (HB2.out _).mono ?_;rintro e w2 ⟨rfl,rfl⟩;go_wp2_with fail
       refine (HB3.out _).mono ?_;rintro e w2 ⟨rfl,rfl⟩;go_wp2_with fail
       refine (HB4.out _).mono ?_;rintro e w2 ⟨rfl,rfl⟩;go_wp2_with fail
       go_ret;exact ⟨ret_bool HV.out.symm,HZ.out⟩
     ·have HV:Hid (ok=false):=HF.out (by rw [HA.out,decide_eq_false s1]; simp);have dF1:((src.size:Int) != 16)=true:=by simp; omega
      clear s1 HA HF HF2 HBB HO;go_enter Try.func19,Try.ntmps19
      go_wp2_with fail
      refine (HB1.out _).mono ?_;rintro e w2 ⟨rfl,rfl⟩;go_wp2_with fail
      refine (HB2.out _).mono ?_;rintro e w2 ⟨rfl,rfl⟩;go_wp2_with fail
      refine (HB3.out _).mono ?_;rintro e w2 ⟨rfl,rfl⟩;go_wp2_with fail
      refine (HB4.out _).mono ?_;rintro e w2 ⟨rfl,rfl⟩;go_wp2_with fail
      go_ret;exact ⟨ret_bool HV.out.symm,HZ.out⟩
end Go.Proofs.Ytagbhaalmjpkjaa
