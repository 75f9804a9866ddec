import Derived.Test.YtdkepkaflielhaaGreatDoorAb
import Derived.Test.YtdkepkaflielhaaGreatDoorTwo
set_option linter.unusedVariables false
set_option linter.unusedSimpArgs false
set_option maxRecDepth 100000
set_option maxHeartbeats 8000000
namespace Go.Proofs.YtdkepkaflielhaaGreatDoor
open Go.RowKit Go.PlainAid
theorem wordFromB_any (f:Nat→Int) (b len cap k:Nat) (w:World) (hf:isByte f) (he:∀ i,len≤i→f i=0) (hl:len≤2000) (hk:k < len)
  (hc:∀ i,i < len→w.cell? ⟨b,i,none⟩=some (.int .u8 (f i))) :
  Cw 186 #[.slice (some ⟨b,0,none⟩) len cap,iV k] w (iV (wordN f k)):=by
 have b1:=hf k;have b2:=hf (k+1);have hj:=join_word (f k) (f (k+1)) b1.1 b1.2 b2.1 b2.2;have c1:=hc k hk;by_cases h:k+1 < len
 ·have c2:=hc (k+1) h;clear hc he hf;go_enter Tryz.func186,Tryz.ntmps186
  go_wp2
  go_ret;exact ⟨ret_int rfl,rfl⟩
 ·have HE:Hid (f (k+1)=0):=he _ (by omega);clear hc he hf;go_enter Tryz.func186,Tryz.ntmps186
  go_wp2
  go_ret;exact ⟨ret_int (by unfold wordN; rw [HE.out]; omega),rfl⟩
theorem sumOfB_any (f:Nat→Int) (b len cap:Nat) (w:World) (hf:isByte f) (he:∀ i,len≤i→f i=0) (hl:len≤2000)
  (hc:∀ i,i < len→w.cell? ⟨b,i,none⟩=some (.int .u8 (f i))) :
  Cw 185 #[.slice (some ⟨b,0,none⟩) len cap] w (iV (sumN f ((len+1) / 2))):=by
 have HW:Hid (∀ k,k < len→Cw 186 #[.slice (some ⟨b,0,none⟩) len cap,iV k] w (iV (wordN f k))):=fun k hk=>wordFromB_any f b len cap k w hf he hl hk hc
 clear hc he;go_enter Tryz.func185,Tryz.ntmps185
 go_wp2
 go_loop [3,9] (fun n i=>∃ k:Nat,k≤(len+1) / 2∧i=iV k∧n=iV (sumN f k)) (fun _ i=>(len+1) / 2-(intOf i).toNat)
 case atStart=>exact ⟨0,Nat.zero_le _,rfl,rfl⟩
 case round =>
  obtain ⟨k,hk,rfl,rfl⟩:=hrel;have hr:=sumN_range hf k;have hq:=wordN_range hf (2*k);have HN:Hid (sumN f (k+1)=add1 (sumN f k) (wordN f (2*k))):=rfl;have HF:Hid _:=fold_add (sumN f k) (wordN f (2*k)) hr.1 hr.2 hq.1 hq.2;have ha:=and_65535 (sumN f k+wordN f (2*k));clear hf;by_cases hlt:k < (len+1) / 2
  ·have h2:2*k < len:=by omega
   go_wp2_with (go_at_call 186; refine (HW.out (2*k) h2).mono ?_; rintro e w' ⟨rfl,rfl⟩)
   go_round
   case rel=>exact ⟨k+1,by omega,by go_num,by rw [HN.out,← HF.out]⟩
   case measure=>simp [intOf]; omega
  ·go_wp2
   go_ret;exact ⟨ret_int (by rw [show (len+1) / 2=k by omega]),rfl⟩
end Go.Proofs.YtdkepkaflielhaaGreatDoor
