import Derived.Test.YtdkepkaflielhaaGreatDoorAb
import Derived.Test.YtdkepkaflielhaaGreatDoorWords
set_option linter.unusedVariables false
set_option linter.unusedSimpArgs false
set_option maxRecDepth 100000
set_option maxHeartbeats 8000000
namespace Go.Proofs.YtdkepkaflielhaaGreatDoor
open Go.RowKit Go.PlainAid
theorem specAdd_any (a b:Int) (w:World) (ha:0≤a) (ha':a≤65535) (hb:0≤b) (hb':b≤65535) :
  Cw 75 #[iV a,iV b] w (iV (add1 a b)):=by
 by_cases h:65535 < a+b
 ·have HV:Hid (add1 a b=a+b-65535):=by unfold Hid add1; rw [if_pos h]
  go_enter Tryz.func75,Tryz.ntmps75
  go_wp2
  go_ret;exact ⟨ret_int HV.out.symm,rfl⟩
 ·have HV:Hid (add1 a b=a+b):=by unfold Hid add1; rw [if_neg h]
  go_enter Tryz.func75,Tryz.ntmps75
  go_wp2
  go_ret;exact ⟨ret_int HV.out.symm,rfl⟩
def sumV (s:ByteArray):Int:=sumN (bt s) ((s.size+1) / 2)
theorem sumV_range (s:ByteArray):0≤sumV s∧sumV s≤65535:=sumN_range (bt_isByte s) _
theorem specSum1_any (s:ByteArray) (w:World) (hs:s.size≤1048578) :
  Cw 70 #[.string s] w (iV (sumV s)):=by
 have hb:=get_bt s;go_enter Tryz.func70,Tryz.ntmps70
 go_wp2
 go_loop [3,4] (fun n i=>∃ k:Nat,2*k≤s.size+1∧i=iV (2*(k:Int))∧n=iV (sumN (bt s) k)) (fun _ i=>s.size+2-(intOf i).toNat)
 case atStart=>exact ⟨0,Nat.zero_le _,rfl,rfl⟩
 case round =>
  obtain ⟨k,hk,rfl,rfl⟩:=hrel;have hr:=sumN_range (bt_isByte s) k;have hq:=wordN_range (bt_isByte s) (2*k);have HW:Hid (wordN (bt s) (2*k)=bt s (2*k)*256+bt s (2*k+1)):=rfl;have HN:Hid (sumN (bt s) (k+1)=add1 (sumN (bt s) k) (wordN (bt s) (2*k))):=rfl;have b1:=bt_isByte s (2*k);have b2:=bt_isByte s (2*k+1);have hj:=join_word (bt s (2*k)) (bt s (2*k+1)) b1.1 b1.2 b2.1 b2.2;by_cases hlt:2*k < s.size
  ·by_cases h2:2*k+1 < s.size
   ·go_wp2_with (go_at_call 75; refine (specAdd_any _ _ _ hr.1 hr.2 (by omega) (by omega)).mono ?_; rintro e w' ⟨rfl,rfl⟩)
    go_round
    case rel=>exact ⟨k+1,by omega,by go_num,by rw [HN.out,HW.out]⟩
    case measure=>simp [intOf]; omega
   ·have HE:Hid (bt s (2*k+1)=0):=bt_end s (by omega);go_wp2_with (go_at_call 75; refine (specAdd_any _ _ _ hr.1 hr.2 (by omega) (by omega)).mono ?_; rintro e w' ⟨rfl,rfl⟩)
    go_round
    case rel=>exact ⟨k+1,by omega,by go_num,by rw [HN.out,HW.out,HE.out,Int.add_zero]⟩
    case measure=>simp [intOf]; omega
  ·go_wp2
   go_ret;exact ⟨ret_int (by unfold sumV; rw [show (s.size+1) / 2=k by omega]),rfl⟩
theorem sumOfS_any (s:ByteArray) (w:World) (hs:s.size≤1048578) :
  Cw 170 #[.string s] w (iV (sumV s)):=by
 have hs':s.size≤maxLen:=by unfold maxLen; omega
 go_enter Tryz.func170,Tryz.ntmps170
 go_wp2
 go_loop [3,9] (fun n i=>∃ k:Nat,k≤(s.size+1) / 2∧i=iV k∧n=iV (sumN (bt s) k)) (fun _ i=>(s.size+1) / 2-(intOf i).toNat)
 case atStart=>exact ⟨0,Nat.zero_le _,rfl,rfl⟩
 case round =>
  obtain ⟨k,hk,rfl,rfl⟩:=hrel;have hr:=sumN_range (bt_isByte s) k;have hq:=wordN_range (bt_isByte s) (2*k);have HN:Hid (sumN (bt s) (k+1)=add1 (sumN (bt s) k) (wordN (bt s) (2*k))):=rfl;have HF:Hid _:=fold_add (sumN (bt s) k) (wordN (bt s) (2*k)) hr.1 hr.2 hq.1 hq.2;have ha:=and_65535 (sumN (bt s) k+wordN (bt s) (2*k));by_cases hlt:k < (s.size+1) / 2
  ·have h2:2*k < s.size:=by omega
   go_wp2_with (go_at_call 131; refine (wordFromS_any s (2*k) _ h2 hs').mono ?_; rintro e w' ⟨rfl,rfl⟩)
   go_round
   case rel=>exact ⟨k+1,by omega,by go_num,by rw [HN.out,← HF.out]⟩
   case measure=>simp [intOf]; omega
  ·go_wp2
   go_ret;exact ⟨ret_int (by unfold sumV; rw [show (s.size+1) / 2=k by omega]),rfl⟩
end Go.Proofs.YtdkepkaflielhaaGreatDoor
