import Derived.Test.YtagbhaalmjpkjaaMerged8
import Derived.Test.YtagbhaalmjpkjaaMerged12
import Derived.Test.YtagbhaalmjpkjaaMerged10
import Derived.Deep.DeepCutAuto
set_option linter.unusedVariables false
set_option linter.unusedSimpArgs false
set_option maxRecDepth 100000
set_option maxHeartbeats 8000000
namespace Go.Proofs.Ytagbhaalmjpkjaa
open Go.RowKit Go.PlainAid
theorem msgRight_any (k c n:Int) (w:World) :
  Calls Try.prog 35 #[.agg #[.int .i64 k,.int .i64 c,.int .i64 n]] w fun e w'=>e=.returned (.bool (msgOk k c n))∧Below w.heap.size w w':=by
 have HK:Hid (∀ W,Calls Try.prog 61 #[.int .i64 k] W fun e w'=>e=.returned (.bool (isIn k 0 255))∧w'=W):=fun W=>implByte_any k W
 have HC:Hid (∀ W,Calls Try.prog 61 #[.int .i64 c] W fun e w'=>e=.returned (.bool (isIn c 0 255))∧w'=W):=fun W=>implByte_any c W
 have HN:Hid (∀ W,Calls Try.prog 62 #[.int .i64 n] W fun e w'=>e=.returned (.bool (isW n))∧w'=W):=fun W=>implWordIs_any n W
 have HV:Hid (msgOk k c n=(isIn k 0 255&&isIn c 0 255&&isW n)):=rfl;generalize msgOk k c n=ans at *;generalize isIn k 0 255=b0 at *;generalize isIn c 0 255=b1 at *;generalize isW n=b2 at *;have HZ:Hid (Below w.heap.size w (w.alloc (.cells #[.int .i64 k,.int .i64 c,.int .i64 n] 65))):=(Below.refl _ _).alloc (Nat.le_refl _) _;go_enter Try.func35,Try.ntmps35
 go_wp2_with fail
 refine (HK.out _).mono ?_;rintro e w1 ⟨rfl,rfl⟩
 cases b0 with
 | false =>
  go_wp2_with fail
  go_ret;exact ⟨ret_bool (by rw [HV.out]; rfl),HZ.out⟩
 | true =>
  go_wp2_with fail
  refine (HC.out _).mono ?_;rintro e w1 ⟨rfl,rfl⟩
  cases b1 with
  | false =>
   go_wp2_with fail
   go_ret;exact ⟨ret_bool (by rw [HV.out]; rfl),HZ.out⟩
  | true =>
   go_wp2_with fail
   refine (HN.out _).mono ?_;rintro e w1 ⟨rfl,rfl⟩;go_wp2_with fail
   go_ret;exact ⟨ret_bool (by rw [HV.out]; rfl),HZ.out⟩
theorem told4Of_any (p:P4) (w:World) (hz:p.src.size=4) (hd:p.data.size≤1400) :
  Calls Try.prog 36 #[p4C p] w fun e w'=>e=.returned (.bool (!dumb4 p))∧Below w.heap.size w w':=by
 obtain ⟨tos,id,whole,more,off,ttl,proto,src,dst,opts,data⟩:=p;have HV:Hid (dumb4 ⟨tos,id,whole,more,off,ttl,proto,src,dst,opts,data⟩=(!decide (off=0)||(src.toList==[0,0,0,0])||(src.toList==[255,255,255,255])||(decide (proto=1)&&(decide (data.size=0)||(!decide (bt data 0=0)&&!decide (bt data 0=8)))))):=rfl;generalize dumb4 ⟨tos,id,whole,more,off,ttl,proto,src,dst,opts,data⟩=ans at *;unfold p4C;dsimp only at *;have hbs:=get_bt src;have hbd:=get_bt data;have hun:undef=Value.tuple #[]:=rfl;have s0:(0:Int) < src.size:=by omega
 have s1:0 < src.size:=by omega
 have HZ:Hid (Below w.heap.size w (w.alloc (.cells #[.int .i64 tos,.int .i64 id,.bool whole,.bool more,.int .i64 off,.int .i64 ttl,.int .i64 proto,.string src,.string dst,.string opts,.string data] 34))):=(Below.refl _ _).alloc (Nat.le_refl _) _;by_cases a1:off=0
 case neg =>
  have d1:(off != 0)=true:=by simp [a1]
  have HX:Hid (ans=true):=by unfold Hid; rw [HV.out,decide_eq_false a1]; rfl
  clear HV a1;go_enter Try.func36,Try.ntmps36
  go_wp2_with fail
  go_ret;exact ⟨ret_bool (by rw [HX.out]; rfl),HZ.out⟩
 have d1:(off != 0)=false:=by simp [a1]
 cases hs0:(src.toList==[0,0,0,0]) with
 | true =>
  have e0:(src.toList==(⟨#[0,0,0,0]⟩ : ByteArray).toList)=true:=by rw [ByteArray.toList_eq (⟨#[0,0,0,0]⟩ : ByteArray)]; exact hs0
  have HX:Hid (ans=true):=by unfold Hid; rw [HV.out,decide_eq_true a1,hs0]; rfl
  clear HV a1;go_enter Try.func36,Try.ntmps36
  go_wp2_with fail
  go_ret;exact ⟨ret_bool (by rw [HX.out]; rfl),HZ.out⟩
 | false =>
  have e0:(src.toList==(⟨#[0,0,0,0]⟩ : ByteArray).toList)=false:=by rw [ByteArray.toList_eq (⟨#[0,0,0,0]⟩ : ByteArray)]; exact hs0
  cases hs1:(src.toList==[255,255,255,255]) with
  | true =>
   have e1:(src.toList==(⟨#[255,255,255,255]⟩ : ByteArray).toList)=true:=by rw [ByteArray.toList_eq (⟨#[255,255,255,255]⟩ : ByteArray)]; exact hs1
   have HX:Hid (ans=true):=by unfold Hid; rw [HV.out,decide_eq_true a1,hs0,hs1]; rfl
   clear HV a1;go_enter Try.func36,Try.ntmps36
   go_wp2_with fail
   go_ret;exact ⟨ret_bool (by rw [HX.out]; rfl),HZ.out⟩
  | false =>
   have e1:(src.toList==(⟨#[255,255,255,255]⟩ : ByteArray).toList)=false:=by rw [ByteArray.toList_eq (⟨#[255,255,255,255]⟩ : ByteArray)]; exact hs1
   by_cases a3:proto=1
   case neg =>
    have d3:(proto != 1)=true:=by simp [a3]
    have HX:Hid (ans=false):=by unfold Hid; rw [HV.out,decide_eq_true a1,hs0,hs1,decide_eq_false a3]; rfl
    clear HV a1 a3;go_enter Try.func36,Try.ntmps36
    go_wp2_with fail
    go_ret;exact ⟨ret_bool (by rw [HX.out]; rfl),HZ.out⟩
   have d3:(proto != 1)=false:=by simp [a3]
   by_cases a4:data.size=0
   case pos =>
    have d4:data.toList.isEmpty=true:=by
     have:data=⟨#[]⟩:=ByteArray.ext (Array.eq_empty_of_size_eq_zero a4);rw [this,ByteArray.toList_eq]; rfl
    have d4':(data.toList==[])=true:=by simpa using d4
    have HX:Hid (ans=true):=by unfold Hid; rw [HV.out,decide_eq_true a1,hs0,hs1,decide_eq_true a3,decide_eq_true a4]; rfl
    clear HV a1 a3 a4;go_enter Try.func36,Try.ntmps36
    go_wp2_with fail
    go_ret;exact ⟨ret_bool (by rw [HX.out]; rfl),HZ.out⟩
   have d4:data.toList.isEmpty=false:=by
    rw [ByteArray.toList_eq];have:data.data.toList≠[]:=fun h=>a4 (by show data.data.size=0; rw [← Array.length_toList,h]; rfl)
    simpa using this
   have d5:(0:Int) < data.size:=by omega
   have d6:0 < data.size:=by omega
   by_cases a5:bt data 0=0
   case pos =>
    have d7:(bt data 0==0)=true:=by simp [a5]
    have HX:Hid (ans=false):=by unfold Hid; rw [HV.out,decide_eq_true a1,hs0,hs1,decide_eq_true a3,decide_eq_false a4,decide_eq_true a5]; rfl
    clear HV a1 a3 a4 a5;go_enter Try.func36,Try.ntmps36
    go_wp2_with fail
    go_ret;exact ⟨ret_bool (by rw [HX.out]; rfl),HZ.out⟩
   have d7:(bt data 0==0)=false:=by simp [a5]
   by_cases a6:bt data 0=8
   case pos =>
    have d8:(bt data 0==8)=true:=by simp [a6]
    have HX:Hid (ans=false):=by unfold Hid; rw [HV.out,decide_eq_true a1,hs0,hs1,decide_eq_true a3,decide_eq_false a4,decide_eq_false a5,decide_eq_true a6]; rfl
    clear HV a1 a3 a4 a5 a6;go_enter Try.func36,Try.ntmps36
    go_wp2_with fail
    go_ret;exact ⟨ret_bool (by rw [HX.out]; rfl),HZ.out⟩
   have d8:(bt data 0==8)=false:=by simp [a6]
   have HX:Hid (ans=true):=by unfold Hid; rw [HV.out,decide_eq_true a1,hs0,hs1,decide_eq_true a3,decide_eq_false a4,decide_eq_false a5,decide_eq_false a6]; rfl
   clear HV a1 a3 a4 a5 a6;go_enter Try.func36,Try.ntmps36
   go_wp2_with fail
   go_ret;exact ⟨ret_bool (by rw [HX.out]; rfl),HZ.out⟩
theorem told6Of_any (p:P6) (w:World) (hz:p.src.size=16) (hd:p.data.size≤1400) :
  Calls Try.prog 53 #[p6C p] w fun e w'=>e=.returned (.bool (!dumb6 p))∧Below w.heap.size w w':=by
 obtain ⟨cls,flow,next,hops,src,dst,piece,more,off,id,data⟩:=p;have HV:Hid (dumb6 ⟨cls,flow,next,hops,src,dst,piece,more,off,id,data⟩=(!decide (off=0)||(src.toList==z16)||decide (bt src 0=255)||(decide (next=58)&&(decide (data.size=0)||decide (bt data 0 < 128))))):=rfl;generalize dumb6 ⟨cls,flow,next,hops,src,dst,piece,more,off,id,data⟩=ans at *;unfold p6C;dsimp only at *;have hbs:=get_bt src;have hbd:=get_bt data;have hun:undef=Value.tuple #[]:=rfl;have s0:(0:Int) < src.size:=by omega
 have s1:0 < src.size:=by omega
 have HZ:Hid (Below w.heap.size w (w.alloc (.cells #[.int .i64 cls,.int .i64 flow,.int .i64 next,.int .i64 hops,.string src,.string dst,.bool piece,.bool more,.int .i64 off,.int .i64 id,.string data] 43))):=(Below.refl _ _).alloc (Nat.le_refl _) _;by_cases a1:off=0
 case neg =>
  have d1:(off != 0)=true:=by simp [a1]
  have HX:Hid (ans=true):=by unfold Hid; rw [HV.out,decide_eq_false a1]; rfl
  clear HV a1;go_enter Try.func53,Try.ntmps53
  go_wp2_with fail
  go_ret;exact ⟨ret_bool (by rw [HX.out]; rfl),HZ.out⟩
 have d1:(off != 0)=false:=by simp [a1]
 cases hs0:(src.toList==z16) with
 | true =>
  have e0:(src.toList==(⟨#[0,0,0,0,0,0,0,0,0,0,0,0,0,0,0,0]⟩ : ByteArray).toList)=true:=by rw [ByteArray.toList_eq (⟨#[0,0,0,0,0,0,0,0,0,0,0,0,0,0,0,0]⟩ : ByteArray)]; exact hs0
  unfold z16 at *;have HX:Hid (ans=true):=by unfold Hid; rw [HV.out,decide_eq_true a1,hs0]; rfl
  clear HV a1;go_enter Try.func53,Try.ntmps53
  go_wp2_with fail
  go_ret;exact ⟨ret_bool (by rw [HX.out]; rfl),HZ.out⟩
 | false =>
  have e0:(src.toList==(⟨#[0,0,0,0,0,0,0,0,0,0,0,0,0,0,0,0]⟩ : ByteArray).toList)=false:=by rw [ByteArray.toList_eq (⟨#[0,0,0,0,0,0,0,0,0,0,0,0,0,0,0,0]⟩ : ByteArray)]; exact hs0
  unfold z16 at *;by_cases a2:bt src 0=255
  case pos =>
   have d2:(bt src 0==255)=true:=by simp [a2]
   have HX:Hid (ans=true):=by unfold Hid; rw [HV.out,decide_eq_true a1,hs0,decide_eq_true a2]; rfl
   clear HV a1 a2;go_enter Try.func53,Try.ntmps53
   go_wp2_with fail
   go_ret;exact ⟨ret_bool (by rw [HX.out]; rfl),HZ.out⟩
  have d2:(bt src 0==255)=false:=by simp [a2]
  by_cases a3:next=58
  case neg =>
   have d3:(next != 58)=true:=by simp [a3]
   have HX:Hid (ans=false):=by unfold Hid; rw [HV.out,decide_eq_true a1,hs0,decide_eq_false a2,decide_eq_false a3]; rfl
   clear HV a1 a2 a3;go_enter Try.func53,Try.ntmps53
   go_wp2_with fail
   go_ret;exact ⟨ret_bool (by rw [HX.out]; rfl),HZ.out⟩
  have d3:(next != 58)=false:=by simp [a3]
  by_cases a4:data.size=0
  case pos =>
   have d4:data.toList.isEmpty=true:=by
    have:data=⟨#[]⟩:=ByteArray.ext (Array.eq_empty_of_size_eq_zero a4);rw [this,ByteArray.toList_eq]; rfl
   have d4':(data.toList==[])=true:=by simpa using d4
   have HX:Hid (ans=true):=by unfold Hid; rw [HV.out,decide_eq_true a1,hs0,decide_eq_false a2,decide_eq_true a3,decide_eq_true a4]; rfl
   clear HV a1 a2 a3 a4;go_enter Try.func53,Try.ntmps53
   go_wp2_with fail
   go_ret;exact ⟨ret_bool (by rw [HX.out]; rfl),HZ.out⟩
  have d4:data.toList.isEmpty=false:=by
   rw [ByteArray.toList_eq];have:data.data.toList≠[]:=fun h=>a4 (by show data.data.size=0; rw [← Array.length_toList,h]; rfl)
   simpa using this
  have d5:(0:Int) < data.size:=by omega
  have d6:0 < data.size:=by omega
  by_cases a5:bt data 0 < 128
  case pos =>
   have d7:decide (128≤bt data 0)=false:=by simp; omega
   have HX:Hid (ans=true):=by unfold Hid; rw [HV.out,decide_eq_true a1,hs0,decide_eq_false a2,decide_eq_true a3,decide_eq_false a4,decide_eq_true a5]; rfl
   clear HV a1 a2 a3 a4 a5;go_enter Try.func53,Try.ntmps53
   go_wp2_with fail
   go_ret;exact ⟨ret_bool (by rw [HX.out]; rfl),HZ.out⟩
  have d7:decide (128≤bt data 0)=true:=by simp; omega
  have HX:Hid (ans=false):=by unfold Hid; rw [HV.out,decide_eq_true a1,hs0,decide_eq_false a2,decide_eq_true a3,decide_eq_false a4,decide_eq_false a5]; rfl
  clear HV a1 a2 a3 a4 a5;go_enter Try.func53,Try.ntmps53
  go_wp2_with fail
  go_ret;exact ⟨ret_bool (by rw [HX.out]; rfl),HZ.out⟩
end Go.Proofs.Ytagbhaalmjpkjaa
