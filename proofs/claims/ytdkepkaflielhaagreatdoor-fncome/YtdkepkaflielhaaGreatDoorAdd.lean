import Derived.Test.YtdkepkaflielhaaGreatDoorAb
import Derived.Test.YtdkepkaflielhaaGreatDoorLay
set_option linter.unusedVariables false
set_option linter.unusedSimpArgs false
set_option maxRecDepth 100000
set_option maxHeartbeats 8000000
namespace Go.Proofs.YtdkepkaflielhaaGreatDoor
open Go.RowKit Go.PlainAid
def fL (ws:List Int) (i:Nat):Int:=(layL ws).getD i 0
theorem fL_end (ws:List Int) (i:Nat) (h:2*ws.length≤i):fL ws i=0:=by
 have:=layL_length ws;simp [fL,List.getD,List.getElem?_eq_none (show (layL ws).length≤i by omega)]
theorem fL_byte:∀ (ws:List Int),(∀ n∈ws,0≤n∧n≤65535)→isByte (fL ws)
 | [],_=>fun i=>by simp [fL,layL]
 | n::r,h=>fun i=>by
  have hn:=h n (by simp);match i with
  | 0=>simp only [fL,layL,List.getD_cons_zero]; omega
  | 1=>simp only [fL,layL,List.getD_cons_succ,List.getD_cons_zero]; omega
  | i+2=>simpa [fL,layL] using fL_byte r (fun m hm=>h m (by simp [hm])) i
theorem add1_zero {a:Int} (h:a≤65535):add1 0 a=a:=by unfold add1; rw [if_neg (by omega)]; omega
theorem word_two (n:Int):n / 256*256+n % 256=n:=by omega
theorem sum_three {a b c:Int} (h:a≤65535):sumN (fL [a,b,c]) 3=add1 (add1 a b) c:=by
 simp only [sumN,wordN,fL,layL,Nat.mul_zero,Nat.mul_one,Nat.zero_add,List.getD_cons_zero,List.getD_cons_succ,word_two,show 2*2=4 from rfl];rw [add1_zero h]
theorem getD_word (ws:List Int) (h:∀ n∈ws,0≤n∧n≤65535) (k:Nat):0≤ws.getD k 0∧ws.getD k 0≤65535:=by
 by_cases hk:k < ws.length
 ·simp only [List.getD,List.getElem?_eq_getElem hk,Option.getD_some]; exact h _ (List.getElem_mem hk)
 ·simp [List.getD,List.getElem?_eq_none (show ws.length≤k by omega)]
theorem layAt (ws:List Int) (w:World) (hm:ws.length≤1000) (h:∀ n∈ws,0≤n∧n≤65535) :
  Calls Tryz.prog 154 #[.slice (some ⟨w.heap.size,0,none⟩) ws.length ws.length] (w.alloc (.cells (ws.map (Value.int .i64)).toArray 2)) fun e w' =>
   e=.returned (.slice (some ⟨w.heap.size+1,0,none⟩) (2*ws.length) (2*ws.length))∧(∀ i,i < 2*ws.length→w'.cell? ⟨w.heap.size+1,i,none⟩=some (.int .u8 (fL ws i)))∧Below w.heap.size w w':=by
 refine (layWords_any ws w.heap.size ws.length ws.length (w.alloc (.cells (ws.map (Value.int .i64)).toArray 2)) hm (by simp) rfl (getD_word ws h) (by intro k hk; simp [hk])).mono ?_;rintro e w' ⟨rfl,hown,hB⟩;have hz:(w.alloc (.cells (ws.map (Value.int .i64)).toArray 2)).heap.size=w.heap.size+1:=by simp
 rw [hz] at hown hB ⊢;refine ⟨rfl,fun i hi=>?_,(bR.alloc (Nat.le_refl _) _).trans (hB.mono (by omega))⟩;have hl:=layL_length ws;rw [hown.cellAt i (by omega)];simp [fL,show i < (layL ws).length by omega]
theorem specTurn1_any (s o n:Int) (w:World) (hs:0≤s∧s≤65535) (ho:0≤o∧o≤65535) (hn:0≤n∧n≤65535) :
  Cw 84 #[iV s,iV o,iV n] w (iV (65535-add1 (add1 (65535-s) (65535-o)) n)):=by
 have r1:=add1_range (a:=65535-s) (b:=65535-o) (by omega) (by omega) (by omega) (by omega);have r2:=add1_range r1.1 r1.2 hn.1 hn.2;go_enter Tryz.func84,Tryz.ntmps84
 go_wp2_with fail
 refine (specAdd_any (65535-s) (65535-o) _ (by omega) (by omega) (by omega) (by omega)).mono ?_;rintro e w' ⟨rfl,rfl⟩;go_wp2_with fail
 refine (specAdd_any _ n _ r1.1 r1.2 hn.1 hn.2).mono ?_;rintro e w' ⟨rfl,rfl⟩;go_wp2
 go_ret;exact ⟨rfl,rfl⟩
def sumTurnV (s o n:Int):Int:=if (0≤s∧s≤65535)∧(0≤o∧o≤65535)∧(0≤n∧n≤65535) then 65535-add1 (add1 (65535-s) (65535-o)) n else 0
theorem implSumTurn_any (s o n:Int) (w:World) :
  Cb 184 #[iV s,iV o,iV n] w (iV (sumTurnV s o n)):=by
 by_cases hs:0≤s∧s≤65535
 ·have i1:=isW_yes hs.1 hs.2;by_cases ho:0≤o∧o≤65535
  ·have i2:=isW_yes ho.1 ho.2;by_cases hn:0≤n∧n≤65535
   ·have i3:=isW_yes hn.1 hn.2;have HV:Hid (sumTurnV s o n=65535-sumN (fL [65535-s,65535-o,n]) 3):=(if_pos ⟨hs,ho,hn⟩ : sumTurnV s o n=65535-add1 (add1 (65535-s) (65535-o)) n).trans (by rw [sum_three (by omega)]);have hws:∀ m∈[65535-s,65535-o,n],0≤m∧m≤65535:=by intro m hm; simp at hm; rcases hm with rfl | rfl | rfl<;>omega
    have HL:Hid (Calls Tryz.prog 154 #[.slice (some ⟨w.heap.size,0,none⟩) 3 3] (w.alloc (.cells #[iV (65535-s),iV (65535-o),iV n] 2)) fun e w' =>
     e=.returned (.slice (some ⟨w.heap.size+1,0,none⟩) 6 6)∧(∀ i,i < 6→w'.cell? ⟨w.heap.size+1,i,none⟩=some (.int .u8 (fL [65535-s,65535-o,n] i)))∧Below w.heap.size w w'):=layAt [65535-s,65535-o,n] w (by simp) hws
    have HB:Hid (isByte (fL [65535-s,65535-o,n])):=fL_byte _ hws;have hr:=sumN_range HB.out 3;clear hws;go_enter Tryz.func184,Tryz.ntmps184
    go_wp2_with (first | (go_at_call 122; refine (implWordIs_any _ _).mono ?_; rintro e w' ⟨rfl,rfl⟩) | (go_at_call 154; refine HL.out.mono ?_; rintro e w' ⟨rfl,hc,hB⟩; have HC:Hid _:=hc; clear hc) | (go_at_call 185; refine (sumOfB_any (fL [65535-s,65535-o,n]) _ 6 6 _ HB.out (fL_end [65535-s,65535-o,n]) (by omega) HC.out).mono ?_; rintro e w' ⟨rfl,rfl⟩))
    go_ret;exact ⟨ret_int HV.out.symm,hB⟩
   ·have HV:Hid (sumTurnV s o n=0):=if_neg (fun h=>hn h.2.2);have i3:=isW_no hn;clear hn;go_enter Tryz.func184,Tryz.ntmps184
    go_wp2_with (go_at_call 122; refine (implWordIs_any _ _).mono ?_; rintro e w' ⟨rfl,rfl⟩)
    go_ret;exact ⟨ret_int HV.out.symm,Below.refl _ _⟩
  ·have HV:Hid (sumTurnV s o n=0):=if_neg (fun h=>ho h.2.1);have i2:=isW_no ho;clear ho;go_enter Tryz.func184,Tryz.ntmps184
   go_wp2_with (go_at_call 122; refine (implWordIs_any _ _).mono ?_; rintro e w' ⟨rfl,rfl⟩)
   go_ret;exact ⟨ret_int HV.out.symm,Below.refl _ _⟩
 ·have HV:Hid (sumTurnV s o n=0):=if_neg (fun h=>hs h.1);have i1:=isW_no hs;clear hs;go_enter Tryz.func184,Tryz.ntmps184
  go_wp2_with (go_at_call 122; refine (implWordIs_any _ _).mono ?_; rintro e w' ⟨rfl,rfl⟩)
  go_ret;exact ⟨ret_int HV.out.symm,Below.refl _ _⟩
end Go.Proofs.YtdkepkaflielhaaGreatDoor
