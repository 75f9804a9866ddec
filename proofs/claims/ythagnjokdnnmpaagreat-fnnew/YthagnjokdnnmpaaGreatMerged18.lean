import Derived.Test.YthagnjokdnnmpaaGreatMerged9
import Derived.Deep.DeepCutAuto
import Derived.Test.YthagnjokdnnmpaaGreatMerged10
import Derived.Test.YthagnjokdnnmpaaGreatMerged11
import Derived.Test.YthagnjokdnnmpaaGreatSPool
import Derived.Test.YthagnjokdnnmpaaGreatHoldL
import Derived.Test.YthagnjokdnnmpaaGreatProg
import Derived.Laws.StructEq
set_option linter.unusedVariables false
set_option linter.unusedSimpArgs false
set_option maxRecDepth 100000
set_option maxHeartbeats 8000000
namespace Go.Proofs.YthagnjokdnnmpaaGreat
open Go.RowKit
structure Bk where
 left:Int
 most:Int
 each:Int
 since:Int
def buC (b:Bk):Value:=.agg #[.int .i64 b.left,.int .i64 b.most,.int .i64 b.each,.int .i64 b.since]
def bkTime (n:Int):Bool:=isIn n 0 1000000000
def bucketOk (b:Bk):Bool:=isIn b.most 1 100&&isIn b.left 0 b.most&&isIn b.each 1 1000&&bkTime b.since
open Go.PlainAid
theorem implByte_any (n:Int) (w:World) :
  Calls Tryz.prog 159 #[.int .i64 n] w fun e w'=>e=.returned (.bool (isIn n 0 255))∧w'=w:=by
 by_cases h1:0≤n
 ·by_cases h2:n≤255
  ·have HV:Hid (isIn n 0 255=true):=by unfold Hid isIn; simp [h1,h2]
   go_enter Tryz.func159,Tryz.ntmps159
   go_wp2_with fail
   go_ret;exact ⟨ret_bool (by rw [HV.out]),rfl⟩
  ·have HV:Hid (isIn n 0 255=false):=by unfold Hid isIn; simp [h2]
   go_enter Tryz.func159,Tryz.ntmps159
   go_wp2_with fail
   go_ret;exact ⟨ret_bool (by rw [HV.out]),rfl⟩
 ·have HV:Hid (isIn n 0 255=false):=by unfold Hid isIn; simp [h1]
  have h1':n < 0:=by omega
  go_enter Tryz.func159,Tryz.ntmps159
  go_wp2_with fail
  go_ret;exact ⟨ret_bool (by rw [HV.out]),rfl⟩
def pcV (off:Int) (more:Bool) (data:ByteArray) (top:Int):Bool:=isIn off 0 8191&&decide (data.size≤1400)&&(!more||decide (data.size % 8=0))&&decide (8*off+data.size≤top)
theorem implPiece_any (off:Int) (more:Bool) (data:ByteArray) (top:Int) (w:World) (h4:data.size≤1048576) :
  Calls Tryz.prog 160 #[.int .i64 off,.bool more,.string data,.int .i64 top] w fun e w'=>e=.returned (.bool (pcV off more data top))∧w'=w:=by
 have HV:Hid (pcV off more data top=(decide (0≤off)&&decide (off≤8191)&&decide (data.size≤1400)&&(!more||decide (data.size % 8=0))&&decide (8*off+data.size≤top))):=by unfold Hid pcV isIn; rfl
 generalize pcV off more data top=ok at *;by_cases e0:0≤off
 ·by_cases e1:off≤8191
  ·by_cases e2:data.size≤1400
   ·have d2:decide ((data.size:Int)≤1400)=true:=by simp; omega
    have em:(!more||decide (data.size % 8=0))=true∨(more=true∧¬ data.size % 8=0):=by cases more<;>simp<;>omega
    rcases em with em | ⟨rfl,em⟩
    ·by_cases e9:8*off+data.size≤top
     ·replace HV:Hid (ok=true):=by unfold Hid; rw [HV.out,em]; simp [e0,e1,e2,e9]
      cases more with
      | false =>
       clear em;go_enter Tryz.func160,Tryz.ntmps160
       go_wp2_with fail
       go_ret;exact ⟨ret_bool HV.out.symm,rfl⟩
      | true =>
       have dm:(((data.size:Int) % 8)==0)=true:=by simp at em; simp; omega
       clear em;go_enter Tryz.func160,Tryz.ntmps160
       go_wp2_with fail
       go_ret;exact ⟨ret_bool HV.out.symm,rfl⟩
     ·replace HV:Hid (ok=false):=by unfold Hid; rw [HV.out]; simp [e9]
      cases more with
      | false =>
       clear em;go_enter Tryz.func160,Tryz.ntmps160
       go_wp2_with fail
       go_ret;exact ⟨ret_bool HV.out.symm,rfl⟩
      | true =>
       have dm:(((data.size:Int) % 8)==0)=true:=by simp at em; simp; omega
       clear em;go_enter Tryz.func160,Tryz.ntmps160
       go_wp2_with fail
       go_ret;exact ⟨ret_bool HV.out.symm,rfl⟩
    ·replace HV:Hid (ok=false):=by unfold Hid; rw [HV.out]; simp [em]
     have dm:(((data.size:Int) % 8)==0)=false:=by simp; omega
     go_enter Tryz.func160,Tryz.ntmps160
     go_wp2_with fail
     go_ret;exact ⟨ret_bool HV.out.symm,rfl⟩
   ·replace HV:Hid (ok=false):=by unfold Hid; rw [HV.out]; simp [e2]
    have d2:decide ((data.size:Int)≤1400)=false:=by simp; omega
    go_enter Tryz.func160,Tryz.ntmps160
    go_wp2_with fail
    go_ret;exact ⟨ret_bool HV.out.symm,rfl⟩
  ·replace HV:Hid (ok=false):=by unfold Hid; rw [HV.out]; simp [e1]
   go_enter Tryz.func160,Tryz.ntmps160
   go_wp2_with fail
   go_ret;exact ⟨ret_bool HV.out.symm,rfl⟩
 ·replace HV:Hid (ok=false):=by unfold Hid; rw [HV.out]; simp [e0]
  go_enter Tryz.func160,Tryz.ntmps160
  go_wp2_with fail
  go_ret;exact ⟨ret_bool HV.out.symm,rfl⟩
theorem isLife_any (n:Int) (w:World) :
  Calls Tryz.prog 167 #[.int .i64 n] w fun e w'=>e=.returned (.bool (isIn n 1 10000))∧w'=w:=by
 by_cases h1:1≤n
 ·by_cases h2:n≤10000
  ·have HV:Hid (isIn n 1 10000=true):=by unfold Hid isIn; simp [h1,h2]
   go_enter Tryz.func167,Tryz.ntmps167
   go_wp2_with fail
   go_ret;exact ⟨ret_bool (by rw [HV.out]),rfl⟩
  ·have HV:Hid (isIn n 1 10000=false):=by unfold Hid isIn; simp [h2]
   go_enter Tryz.func167,Tryz.ntmps167
   go_wp2_with fail
   go_ret;exact ⟨ret_bool (by rw [HV.out]),rfl⟩
 ·have HV:Hid (isIn n 1 10000=false):=by unfold Hid isIn; simp [h1]
  have h1':n < 1:=by omega
  go_enter Tryz.func167,Tryz.ntmps167
  go_wp2_with fail
  go_ret;exact ⟨ret_bool (by rw [HV.out]),rfl⟩
theorem isState_any (n:Int) (w:World) :
  Calls Tryz.prog 154 #[.int .i64 n] w fun e w'=>e=.returned (.bool (isIn n 1 7))∧w'=w:=by
 by_cases h1:1≤n
 ·by_cases h2:n≤7
  ·have HV:Hid (isIn n 1 7=true):=by unfold Hid isIn; simp [h1,h2]
   go_enter Tryz.func154,Tryz.ntmps154
   go_wp2_with fail
   go_ret;exact ⟨ret_bool (by rw [HV.out]),rfl⟩
  ·have HV:Hid (isIn n 1 7=false):=by unfold Hid isIn; simp [h2]
   go_enter Tryz.func154,Tryz.ntmps154
   go_wp2_with fail
   go_ret;exact ⟨ret_bool (by rw [HV.out]),rfl⟩
 ·have HV:Hid (isIn n 1 7=false):=by unfold Hid isIn; simp [h1]
  have h1':n < 1:=by omega
  go_enter Tryz.func154,Tryz.ntmps154
  go_wp2_with fail
  go_ret;exact ⟨ret_bool (by rw [HV.out]),rfl⟩
theorem implStill_any (proto:Int) (w:World) :
  Calls Tryz.prog 155 #[.int .i64 proto] w fun e w'=>e=.returned (.bool (stillP proto))∧w'=w:=by
 by_cases h1:proto=17
 ·have HV:Hid (stillP proto=true):=by unfold Hid stillP; simp [h1]
  go_enter Tryz.func155,Tryz.ntmps155
  go_wp2_with fail
  go_ret;exact ⟨ret_bool HV.out.symm,rfl⟩
 ·by_cases h2:proto=1
  ·have HV:Hid (stillP proto=true):=by unfold Hid stillP; simp [h2]
   go_enter Tryz.func155,Tryz.ntmps155
   go_wp2_with fail
   go_ret;exact ⟨ret_bool HV.out.symm,rfl⟩
  ·have HV:Hid (stillP proto=false):=by unfold Hid stillP; simp [h1,h2]
   go_enter Tryz.func155,Tryz.ntmps155
   go_wp2_with fail
   go_ret;exact ⟨ret_bool (by rw [HV.out]; simp [h1,h2]),rfl⟩
theorem implLives_any (l:Lv) (w:World) :
  Calls Tryz.prog 148 #[lvC l] w fun e w'=>e=.returned (.bool (livesOk l))∧Below w.heap.size w w':=by
 have HC0:Hid (∀ W,Calls Tryz.prog 167 #[.int .i64 l.udp] W fun e w'=>e=.returned (.bool (isIn l.udp 1 10000))∧w'=W):=fun W=>isLife_any _ W
 have HC1:Hid (∀ W,Calls Tryz.prog 167 #[.int .i64 l.echo] W fun e w'=>e=.returned (.bool (isIn l.echo 1 10000))∧w'=W):=fun W=>isLife_any _ W
 have HC2:Hid (∀ W,Calls Tryz.prog 167 #[.int .i64 l.opening] W fun e w'=>e=.returned (.bool (isIn l.opening 1 10000))∧w'=W):=fun W=>isLife_any _ W
 have HC3:Hid (∀ W,Calls Tryz.prog 167 #[.int .i64 l.opn] W fun e w'=>e=.returned (.bool (isIn l.opn 1 10000))∧w'=W):=fun W=>isLife_any _ W
 have HC4:Hid (∀ W,Calls Tryz.prog 167 #[.int .i64 l.closing] W fun e w'=>e=.returned (.bool (isIn l.closing 1 10000))∧w'=W):=fun W=>isLife_any _ W
 have HV:Hid (livesOk l=(isIn l.udp 1 10000&&isIn l.echo 1 10000&&isIn l.opening 1 10000&&isIn l.opn 1 10000&&isIn l.closing 1 10000)):=rfl;generalize livesOk l=ans at *;generalize isIn l.udp 1 10000=b0 at *;generalize isIn l.echo 1 10000=b1 at *;generalize isIn l.opening 1 10000=b2 at *;generalize isIn l.opn 1 10000=b3 at *;generalize isIn l.closing 1 10000=b4 at *;have HZ:Hid (Below w.heap.size w (w.alloc (.cells #[.int .i64 l.udp,.int .i64 l.echo,.int .i64 l.opening,.int .i64 l.opn,.int .i64 l.closing] 26))):=(Below.refl _ _).alloc (Nat.le_refl _) _;unfold lvC;go_enter Tryz.func148,Tryz.ntmps148
 go_wp2_with fail
 cases b0 with
 | false =>
  refine (HC0.out _).mono ?_;rintro e w0 ⟨rfl,rfl⟩;go_wp2_with fail
  go_ret;exact ⟨ret_bool (by rw [HV.out]; rfl),HZ.out⟩
 | true =>
  refine (HC0.out _).mono ?_;rintro e w0 ⟨rfl,rfl⟩;go_wp2_with fail
  cases b1 with
  | false =>
   refine (HC1.out _).mono ?_;rintro e w1 ⟨rfl,rfl⟩;go_wp2_with fail
   go_ret;exact ⟨ret_bool (by rw [HV.out]; rfl),HZ.out⟩
  | true =>
   refine (HC1.out _).mono ?_;rintro e w1 ⟨rfl,rfl⟩;go_wp2_with fail
   cases b2 with
   | false =>
    refine (HC2.out _).mono ?_;rintro e w2 ⟨rfl,rfl⟩;go_wp2_with fail
    go_ret;exact ⟨ret_bool (by rw [HV.out]; rfl),HZ.out⟩
   | true =>
    refine (HC2.out _).mono ?_;rintro e w2 ⟨rfl,rfl⟩;go_wp2_with fail
    cases b3 with
    | false =>
     refine (HC3.out _).mono ?_;rintro e w3 ⟨rfl,rfl⟩;go_wp2_with fail
     go_ret;exact ⟨ret_bool (by rw [HV.out]; rfl),HZ.out⟩
    | true =>
     refine (HC3.out _).mono ?_;rintro e w3 ⟨rfl,rfl⟩;go_wp2_with fail
     cases b4 with
     | false =>
      refine (HC4.out _).mono ?_;rintro e w4 ⟨rfl,rfl⟩;go_wp2_with fail
      go_ret;exact ⟨ret_bool (by rw [HV.out]; rfl),HZ.out⟩
     | true =>
      refine (HC4.out _).mono ?_;rintro e w4 ⟨rfl,rfl⟩;go_wp2_with fail
      go_ret;exact ⟨ret_bool (by rw [HV.out]; rfl),HZ.out⟩
theorem isBound_any (proto:Int) (w:World) :
  Calls Tryz.prog 150 #[.int .i64 proto] w fun e w'=>e=.returned (.bool (protoB proto))∧w'=w:=by
 have hun:undef=Value.tuple #[]:=rfl;by_cases h0:proto=6
 ·subst h0;go_enter Tryz.func150,Tryz.ntmps150
  go_wp2_with fail
  go_ret;exact ⟨rfl,rfl⟩
 ·by_cases h1:proto=17
  ·subst h1;go_enter Tryz.func150,Tryz.ntmps150
   go_wp2_with fail
   go_ret;exact ⟨rfl,rfl⟩
  ·by_cases h2:proto=1
   ·subst h2;go_enter Tryz.func150,Tryz.ntmps150
    go_wp2_with fail
    go_ret;exact ⟨rfl,rfl⟩
   ·have HV:Hid (protoB proto=false):=by unfold Hid protoB; simp [h0,h1,h2]
    go_enter Tryz.func150,Tryz.ntmps150
    go_wp2_with fail
    go_ret;exact ⟨ret_bool (by rw [HV.out]; simp [h0,h1,h2]),rfl⟩
theorem strIndex_any (xs:List ByteArray) (s:ByteArray) (a:Option Addr) (cap:Nat) (w:World) (hlen:xs.length≤1048576) (hr:SlIs strL1 1 w a xs) :
  Calls Tryz.prog 170 #[.slice a xs.length cap,.string s] w fun e w'=>∃ j:Int,e=.returned (.int .i64 j)∧-1≤j∧j≤1048576∧Hid (decide (0≤j)=inL xs s)∧Below w.heap.size w w':=by
 have HR:Hid (SlIs strL1 1 w a xs):=hr;have HV:Hid (inL xs s=xs.any fun t=>decide (t.toList=s.toList)):=rfl;generalize inL xs s=ans at *;clear hr;go_enter Tryz.func170,Tryz.ntmps170
 go_wp2_with fail
 go_loopw [8] (fun iv wr=>∃ i:Nat,i≤xs.length∧iv=.int .i64 i∧(xs.take i).any (fun t=>decide (t.toList=s.toList))=false∧Below w.heap.size w wr) (fun iv _=>xs.length-(intOf iv).toNat)
 case atStart=>exact ⟨0,Nat.zero_le _,rfl,rfl,Below.refl _ _⟩
 case round =>
  obtain ⟨i,hi,rfl,hn,hbel⟩:=hrel;have HN:Hid ((xs.take i).any (fun t=>decide (t.toList=s.toList))=false):=hn;have HL:Hid (Below w.heap.size w wr):=hbel;clear hn hbel;by_cases hlt:i < xs.length
  ·obtain ⟨b,off,rfl,hb,hat⟩:=HR.out.at hlt;have hA:=(hat.below hb HL.out) i hlt;have HST:Hid _:=any_take (fun t:ByteArray=>decide (t.toList=s.toList)) xs i hlt;have HAT:Hid _:=any_at (fun t:ByteArray=>decide (t.toList=s.toList)) xs i hlt;obtain ⟨t,ht⟩ : ∃ t,xs[i]=t:=⟨_,rfl⟩;rw [ht] at hA HST HAT;have c0:wr.cell? ⟨b,off+i,none⟩=some (.string t):=by have:=hA 0 _ rfl; simpa using this
   have c0':wr.cell? ⟨b,off+i*1,none⟩=some (.string t):=by simpa using c0
   clear hA hat ht;by_cases he:t.toList=s.toList
   ·have HX:Hid (decide (0≤(i:Int))=ans):=by unfold Hid; rw [HV.out,HAT.out (decide_eq_true he)]; simp
    have hbq:(s.toList==t.toList)=true:=by simp [he]
    clear he;go_wp2_with fail
    go_ret;exact ⟨i,rfl,by omega,by omega,HX,HL.out⟩
   ·have HN2:Hid ((xs.take (i+1)).any (fun t=>decide (t.toList=s.toList))=false):=by unfold Hid; rw [HST.out,HN.out,decide_eq_false he]; rfl
    have hbq:(s.toList==t.toList)=false:=by simp; exact fun e=>he e.symm
    clear he;go_wp2_with fail
    go_roundw
    case rel=>exact ⟨i+1,by omega,by go_num,HN2.out,HL.out⟩
    case measure=>simp [intOf]; omega
  ·have hie:i=xs.length:=by omega
   have HX:Hid (decide (0≤(-1:Int))=ans):=by unfold Hid; have:=HN.out; rw [hie,List.take_length] at this; rw [HV.out,this]; rfl
   go_wp2_with fail
   go_ret;exact ⟨-1,rfl,by omega,by omega,HX,HL.out⟩
theorem strHas_any (xs:List ByteArray) (s:ByteArray) (a:Option Addr) (cap:Nat) (w:World) (hlen:xs.length≤1048576) (hr:SlIs strL1 1 w a xs) :
  Calls Tryz.prog 152 #[.slice a xs.length cap,.string s] w fun e w'=>e=.returned (.bool (inL xs s))∧Below w.heap.size w w':=by
 have HI:Hid _:=strIndex_any xs s a cap w hlen hr;generalize inL xs s=ans at *;clear hr;go_enter Tryz.func152,Tryz.ntmps152
 go_wp2_with fail
 refine Calls.mono HI.out ?_;rintro e w1 ⟨j,rfl,h1,h2,h3,b1⟩;have B1:Hid _:=b1;clear b1;go_wp2_with fail
 go_ret;exact ⟨ret_bool h3.out,B1.out⟩
def poolA (xs:List ByteArray):Bool:=decide (1≤xs.length)&&decide (xs.length≤8)&&upN addrOne xs xs.length
theorem implPoolA_any (xs:List ByteArray) (a:Option Addr) (cap:Nat) (w:World) (hlen:xs.length≤1048576) (hcap:xs.length≤cap) (hsz:∀ s∈xs,s.size≤1048576) (hr:SlIs strL1 1 w a xs) :
  Calls Tryz.prog 147 #[.slice a xs.length cap] w fun e w'=>e=.returned (.bool (poolA xs))∧Below w.heap.size w w':=by
 have HR:Hid (SlIs strL1 1 w a xs):=hr;have HZ:Hid (∀ s∈xs,s.size≤1048576):=hsz;have HV:Hid (poolA xs=(decide (1≤xs.length)&&decide (xs.length≤8)&&upN addrOne xs xs.length)):=rfl;generalize poolA xs=ans at *;have hun:undef=Value.tuple #[]:=rfl;clear hr hsz;by_cases h1:xs.length < 1
 ·have HX:Hid (ans=false):=by unfold Hid; rw [HV.out,decide_eq_false (show ¬ 1≤xs.length by omega)]; rfl
  have h1':(xs.length:Int) < 1:=by omega
  go_enter Tryz.func147,Tryz.ntmps147
  go_wp2_with fail
  go_ret;exact ⟨ret_bool HX.out.symm,Below.refl _ _⟩
 ·have h1n:¬ (xs.length:Int) < 1:=by omega
  by_cases h2:8 < xs.length
  ·have HX:Hid (ans=false):=by unfold Hid; rw [HV.out,decide_eq_false (show ¬ xs.length≤8 by omega)]; simp
   have h2':(8:Int) < (xs.length:Int):=by omega
   go_enter Tryz.func147,Tryz.ntmps147
   go_wp2_with fail
   go_ret;exact ⟨ret_bool HX.out.symm,Below.refl _ _⟩
  ·have HU:Hid (ans=upN addrOne xs xs.length):=by unfold Hid; rw [HV.out,decide_eq_true (show 1≤xs.length by omega),decide_eq_true (show xs.length≤8 by omega)]; rfl
   have h2n:¬ (8:Int) < (xs.length:Int):=by omega
   clear HV;go_enter Tryz.func147,Tryz.ntmps147
   go_wp2_with fail
   go_loopw [15] (fun iv wr=>∃ i:Nat,i≤xs.length∧iv=.int .i64 i∧upN addrOne xs i=true∧Below w.heap.size w wr) (fun iv _=>xs.length-(intOf iv).toNat)
   case atStart=>exact ⟨0,Nat.zero_le _,rfl,rfl,Below.refl _ _⟩
   case round =>
    obtain ⟨i,hi,rfl,hn,hbel⟩:=hrel;have HN:Hid (upN addrOne xs i=true):=hn;have HL:Hid (Below w.heap.size w wr):=hbel;clear hn hbel;by_cases hlt:i < xs.length
    ·obtain ⟨b,off,rfl,hb,hat⟩:=HR.out.at hlt;have hA:=(hat.below hb HL.out) i hlt;have HST:Hid _:=upN_step (f:=addrOne) hlt;have HATF:Hid (addrOne (xs.take i) xs[i]=false→upN addrOne xs xs.length=false):=upN_at hlt;have hts:=HZ.out xs[i] (List.getElem_mem hlt);obtain ⟨t,ht⟩ : ∃ t,xs[i]=t:=⟨_,rfl⟩;rw [ht] at hA HST HATF hts;have c0:wr.cell? ⟨b,off+i,none⟩=some (.string t):=by have:=hA 0 _ rfl; simpa using this
     have c0':wr.cell? ⟨b,off+i*1,none⟩=some (.string t):=by simpa using c0
     have HOV:Hid (addrOne (xs.take i) t=(decide (t.size=4)&&!inL (xs.take i) t)):=rfl;have hltI:(i:Int) < (xs.length:Int):=by omega
     have HC:Hid (∀ W,Below w.heap.size w W→Calls Tryz.prog 152 #[.slice (some ⟨b,off,none⟩) i cap,.string t] W fun e w'=>e=.returned (.bool (inL (xs.take i) t))∧Below W.heap.size W w'):=fun W hW=>by
      have h:=strHas_any (xs.take i) t (some ⟨b,off,none⟩) cap W (by simp; omega) ((HR.out.below hW).take i);rw [List.length_take,Nat.min_eq_left (by omega)] at h; exact h
     generalize inL (xs.take i) t=il at *;clear hA hat ht;by_cases h4:t.size=4
     ·have h4i:(t.size:Int)=4:=by omega
      have d1:((t.size:Int) != 4)=false:=by simp [h4i]
      clear h4i;go_wp2_with fail
      refine (HC.out _ HL.out).mono ?_;rintro e w1 ⟨rfl,q1⟩;have HL1:Hid (Below w.heap.size w w1):=HL.out.trans (q1.mono HL.out.size);clear q1
      cases il with
      | true =>
       have HX:Hid (ans=false):=by unfold Hid; rw [HU.out]; refine HATF.out ?_; rw [HOV.out]; simp
       go_wp2_with fail
       go_ret;exact ⟨ret_bool HX.out.symm,HL1.out⟩
      | false =>
       have HN2:Hid (upN addrOne xs (i+1)=true):=by unfold Hid; rw [HST.out,HN.out,HOV.out,decide_eq_true h4]; rfl
       go_wp2_with fail
       go_roundw
       case rel=>exact ⟨i+1,by omega,by go_num,HN2.out,HL1.out⟩
       case measure=>simp [intOf]; omega
     ·have HX:Hid (ans=false):=by unfold Hid; rw [HU.out]; refine HATF.out ?_; rw [HOV.out,decide_eq_false h4]; rfl
      have h4i:¬ (t.size:Int)=4:=by omega
      have d1:((t.size:Int) != 4)=true:=by simp [h4i]
      go_wp2_with fail
      go_ret;exact ⟨ret_bool HX.out.symm,HL.out⟩
    ·have hie:i=xs.length:=by omega
     have HX:Hid (ans=true):=by unfold Hid; have:=HN.out; rw [hie] at this; rw [HU.out]; exact this
     go_wp2_with fail
     go_ret;exact ⟨ret_bool HX.out.symm,HL.out⟩
end Go.Proofs.YthagnjokdnnmpaaGreat
namespace Go.Proofs.YthagnjokdnnmpaaGreat
open Go.RowKit
structure En where
 proto:Int
 addr:ByteArray
 port:Int
def enC (q:En):Value:=.agg #[.int .i64 q.proto,.string q.addr,.int .i64 q.port]
def enL (q:En):List Value:=[.int .i64 q.proto,.string q.addr,.int .i64 q.port]
def sameEn (q p:En):Bool:=(q.proto==p.proto)&&((q.addr.toList==p.addr.toList)&&(q.port==p.port))
structure Sk where
 host:En
 peer:ByteArray
 peerPort:Int
def skC (q:Sk):Value:=.agg #[.int .i64 q.host.proto,.string q.host.addr,.int .i64 q.host.port,.string q.peer,.int .i64 q.peerPort]
def skL (q:Sk):List Value:=[.int .i64 q.host.proto,.string q.host.addr,.int .i64 q.host.port,.string q.peer,.int .i64 q.peerPort]
def sameSk (q p:Sk):Bool:=sameEn q.host p.host&&((q.peer.toList==p.peer.toList)&&(q.peerPort==p.peerPort))
theorem eqEn_run (D:Nat) (q p:En) (W:World):(Op.equalIn (D+2) 168 (.agg #[.int .i64 q.proto,.string q.addr,.int .i64 q.port]) (.agg #[.int .i64 p.proto,.string p.addr,.int .i64 p.port])).run Tryz.prog W=.ok (sameEn q p) W:=by
 have h1:Tryz.prog.underlying 168=some (.struct (Tryz.prog.fieldsOf 168)):=by kernel_rfl
 have h2:Tryz.prog.stoodInHeld 168=false:=by kernel_rfl
 rw [run_equalIn_agg _ _ _ _ _ h1 h2];have h3:(Tryz.prog.fieldsOf 168).toList.length=3:=by kernel_rfl
 have h4 : ((Tryz.prog.fieldsOf 168).toList.map fun f => (f.type, f.offset, f.name == "_")) = [(2, 0, false), (9, 1, false), (2, 2, false)] := by kernel_rfl
 generalize (Tryz.prog.fieldsOf 168).toList=fs at *;match fs,h3 with
 | [f0,f1,f2],_ =>
  simp only [List.map_cons,List.map_nil,List.cons.injEq,Prod.mk.injEq,and_true] at h4;obtain ⟨⟨a0,b0,c0⟩,⟨a1,b1,c1⟩,⟨a2,b2,c2⟩⟩:=h4
  have d0 : (f0.name ≠ "_") = True := by simpa using c0
  have q0:∀ W,(part 2 #[.int .i64 q.proto,.string q.addr,.int .i64 q.port] 0).run Tryz.prog W=.ok (.int .i64 q.proto) W:=fun W=>by kernel_rfl
  have p0:∀ W,(part 2 #[.int .i64 p.proto,.string p.addr,.int .i64 p.port] 0).run Tryz.prog W=.ok (.int .i64 p.proto) W:=fun W=>by kernel_rfl
  have d1 : (f1.name ≠ "_") = True := by simpa using c1
  have q1:∀ W,(part 9 #[.int .i64 q.proto,.string q.addr,.int .i64 q.port] 1).run Tryz.prog W=.ok (.string q.addr) W:=fun W=>by kernel_rfl
  have p1:∀ W,(part 9 #[.int .i64 p.proto,.string p.addr,.int .i64 p.port] 1).run Tryz.prog W=.ok (.string p.addr) W:=fun W=>by kernel_rfl
  have d2 : (f2.name ≠ "_") = True := by simpa using c2
  have q2:∀ W,(part 2 #[.int .i64 q.proto,.string q.addr,.int .i64 q.port] 2).run Tryz.prog W=.ok (.int .i64 q.port) W:=fun W=>by kernel_rfl
  have p2:∀ W,(part 2 #[.int .i64 p.proto,.string p.addr,.int .i64 p.port] 2).run Tryz.prog W=.ok (.int .i64 p.port) W:=fun W=>by kernel_rfl
  unfold sameEn;simp only [Op.eqFields,a0,b0,d0,q0,p0,a1,b1,d1,q1,p1,a2,b2,d2,q2,p2,if_true,Sem.run_bind,Sem.run_ite,Sem.run_pure,Result.andThen_ok,run_equalIn_string _ _ _ _ _ Tryz.underlying9,run_equalIn_int _ _ _ _ _ _ _ Tryz.underlying2];generalize (q.proto==p.proto)=g0;generalize (q.addr.toList==p.addr.toList)=g1;generalize (q.port==p.port)=g2
  cases g0
  ·simp
  simp only [Bool.not_true,Bool.false_eq_true,if_false,Bool.true_and]
  cases g1
  ·simp
  simp only [Bool.not_true,Bool.false_eq_true,if_false,Bool.true_and]
  cases g2<;>simp
theorem eqEn_bin (q p:En) (W:World):(binOp .eql 168 (.agg #[.int .i64 q.proto,.string q.addr,.int .i64 q.port]) (.agg #[.int .i64 p.proto,.string p.addr,.int .i64 p.port])).run Tryz.prog W=.ok (.bool (sameEn q p)) W:=by
 rw [run_eql_struct,eqEn_run 9998 q p W]; rfl
theorem eqSk_run (D:Nat) (q p:Sk) (W:World):(Op.equalIn (D+3) 171 (.agg #[.int .i64 q.host.proto,.string q.host.addr,.int .i64 q.host.port,.string q.peer,.int .i64 q.peerPort]) (.agg #[.int .i64 p.host.proto,.string p.host.addr,.int .i64 p.host.port,.string p.peer,.int .i64 p.peerPort])).run Tryz.prog W=.ok (sameSk q p) W:=by
 have h1:Tryz.prog.underlying 171=some (.struct (Tryz.prog.fieldsOf 171)):=by kernel_rfl
 have h2:Tryz.prog.stoodInHeld 171=false:=by kernel_rfl
 rw [run_equalIn_agg _ _ _ _ _ h1 h2];have h3:(Tryz.prog.fieldsOf 171).toList.length=3:=by kernel_rfl
 have h4 : ((Tryz.prog.fieldsOf 171).toList.map fun f => (f.type, f.offset, f.name == "_")) = [(168, 0, false), (9, 3, false), (2, 4, false)] := by kernel_rfl
 generalize (Tryz.prog.fieldsOf 171).toList=fs at *;match fs,h3 with
 | [f0,f1,f2],_ =>
  simp only [List.map_cons,List.map_nil,List.cons.injEq,Prod.mk.injEq,and_true] at h4;obtain ⟨⟨a0,b0,c0⟩,⟨a1,b1,c1⟩,⟨a2,b2,c2⟩⟩:=h4
  have d0 : (f0.name ≠ "_") = True := by simpa using c0
  have q0:∀ W,(part 168 #[.int .i64 q.host.proto,.string q.host.addr,.int .i64 q.host.port,.string q.peer,.int .i64 q.peerPort] 0).run Tryz.prog W=.ok (.agg #[.int .i64 q.host.proto,.string q.host.addr,.int .i64 q.host.port]) W:=fun W=>by kernel_rfl
  have p0:∀ W,(part 168 #[.int .i64 p.host.proto,.string p.host.addr,.int .i64 p.host.port,.string p.peer,.int .i64 p.peerPort] 0).run Tryz.prog W=.ok (.agg #[.int .i64 p.host.proto,.string p.host.addr,.int .i64 p.host.port]) W:=fun W=>by kernel_rfl
  have d1 : (f1.name ≠ "_") = True := by simpa using c1
  have q1:∀ W,(part 9 #[.int .i64 q.host.proto,.string q.host.addr,.int .i64 q.host.port,.string q.peer,.int .i64 q.peerPort] 3).run Tryz.prog W=.ok (.string q.peer) W:=fun W=>by kernel_rfl
  have p1:∀ W,(part 9 #[.int .i64 p.host.proto,.string p.host.addr,.int .i64 p.host.port,.string p.peer,.int .i64 p.peerPort] 3).run Tryz.prog W=.ok (.string p.peer) W:=fun W=>by kernel_rfl
  have d2 : (f2.name ≠ "_") = True := by simpa using c2
  have q2:∀ W,(part 2 #[.int .i64 q.host.proto,.string q.host.addr,.int .i64 q.host.port,.string q.peer,.int .i64 q.peerPort] 4).run Tryz.prog W=.ok (.int .i64 q.peerPort) W:=fun W=>by kernel_rfl
  have p2:∀ W,(part 2 #[.int .i64 p.host.proto,.string p.host.addr,.int .i64 p.host.port,.string p.peer,.int .i64 p.peerPort] 4).run Tryz.prog W=.ok (.int .i64 p.peerPort) W:=fun W=>by kernel_rfl
  unfold sameSk;simp only [Op.eqFields,a0,b0,d0,q0,p0,a1,b1,d1,q1,p1,a2,b2,d2,q2,p2,if_true,Sem.run_bind,Sem.run_ite,Sem.run_pure,Result.andThen_ok,run_equalIn_string _ _ _ _ _ Tryz.underlying9,run_equalIn_int _ _ _ _ _ _ _ Tryz.underlying2,eqEn_run D q.host p.host];generalize (sameEn q.host p.host)=g0;generalize (q.peer.toList==p.peer.toList)=g1;generalize (q.peerPort==p.peerPort)=g2
  cases g0
  ·simp
  simp only [Bool.not_true,Bool.false_eq_true,if_false,Bool.true_and]
  cases g1
  ·simp
  simp only [Bool.not_true,Bool.false_eq_true,if_false,Bool.true_and]
  cases g2<;>simp
theorem eqSk_bin (q p:Sk) (W:World):(binOp .eql 171 (.agg #[.int .i64 q.host.proto,.string q.host.addr,.int .i64 q.host.port,.string q.peer,.int .i64 q.peerPort]) (.agg #[.int .i64 p.host.proto,.string p.host.addr,.int .i64 p.host.port,.string p.peer,.int .i64 p.peerPort])).run Tryz.prog W=.ok (.bool (sameSk q p)) W:=by
 rw [run_eql_struct,eqSk_run 9997 q p W]; rfl
end Go.Proofs.YthagnjokdnnmpaaGreat
