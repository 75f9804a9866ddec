import Derived.Test.YthagnjokdnnmpaaGreatMerged14
import Derived.Test.YthagnjokdnnmpaaGreatMerged5
import Derived.Test.YthagnjokdnnmpaaGreatMerged9
import Derived.Test.YthagnjokdnnmpaaGreatMerged18
import Derived.Test.YthagnjokdnnmpaaGreatMerged17
import Derived.BigQuiet
import Derived.Deep.DeepCutAuto
import Derived.Test.YthagnjokdnnmpaaGreatMerged23
import Derived.Test.YthagnjokdnnmpaaGreatHoldL
set_option linter.unusedVariables false
set_option linter.unusedSimpArgs false
set_option maxRecDepth 100000
set_option maxHeartbeats 8000000
namespace Go.Proofs.YthagnjokdnnmpaaGreat
open Go.RowKit Go.PlainAid
theorem implPairP_any (s d:ByteArray) (w:World) (hs:s.size≤maxLen) (hd:d.size≤maxLen) :
  Calls Tryz.prog 158 #[.string s,.string d] w fun e w'=>e=.returned (.bool (pairOk s d))∧w'=w:=by
 have HA:Hid (∀ W,Calls Tryz.prog 117 #[.string s] W fun e w'=>e=.returned (.bool (addrOk s))∧w'=W):=fun W=>implAddrRight_any s W
 unfold maxLen at hs hd;unfold pairOk;generalize addrOk s=b at *;by_cases h:s.size=d.size
 ·have dh:((s.size:Int)==(d.size:Int))=true:=by simp; omega
  rw [decide_eq_true h];clear h
  cases b;all_goals go_enter Tryz.func158,Tryz.ntmps158
  all_goals go_wp2_with fail
  all_goals refine (HA.out _).mono ?_
  all_goals rintro e w2 ⟨rfl,rfl⟩
  all_goals go_wp2_with fail
  all_goals go_ret
  all_goals exact ⟨rfl,rfl⟩
 ·have dh:((s.size:Int)==(d.size:Int))=false:=by simp; omega
  rw [decide_eq_false h]
  cases b;all_goals go_enter Tryz.func158,Tryz.ntmps158
  all_goals go_wp2_with fail
  all_goals refine (HA.out _).mono ?_
  all_goals rintro e w2 ⟨rfl,rfl⟩
  all_goals go_wp2_with fail
  all_goals go_ret
  all_goals exact ⟨rfl,rfl⟩
theorem implTime_any (n:Int) (w:World) :
  Calls Tryz.prog 43 #[.int .i64 n] w fun e w'=>e=.returned (.bool (isTime n))∧w'=w:=by
 by_cases h1:0≤n
 ·by_cases h2:n≤1000000000
  ·have HV:Hid (isTime n=true):=by unfold Hid isTime isIn; simp [h1,h2]
   go_enter Tryz.func43,Tryz.ntmps43
   go_wp2_with fail
   go_ret;exact ⟨ret_bool (by rw [HV.out]),rfl⟩
  ·have HV:Hid (isTime n=false):=by unfold Hid isTime isIn; simp [h2]
   go_enter Tryz.func43,Tryz.ntmps43
   go_wp2_with fail
   go_ret;exact ⟨ret_bool (by rw [HV.out]),rfl⟩
 ·have HV:Hid (isTime n=false):=by unfold Hid isTime isIn; simp [h1]
  have h1':n < 0:=by omega
  go_enter Tryz.func43,Tryz.ntmps43
  go_wp2_with fail
  go_ret;exact ⟨ret_bool (by rw [HV.out]),rfl⟩
theorem pieceOk_prog (p:Pc):pieceOk p=(pairOk p.src p.dst&&(isIn p.proto 0 255&&(decide (0≤p.id)&&(decide (p.id≤4294967295)&&(decide (1≤p.data.size)&&(pcV p.off p.more p.data 65535&&isTime p.since)))))):=by
 unfold pieceOk pcV;rw [show isIn p.id 0 4294967295=(decide (0≤p.id)&&decide (p.id≤4294967295)) from rfl];ac_rfl
theorem ba_toList_nil {a:ByteArray} (h:¬ 1≤a.size):a.toList=[]:=by
 rw [ByteArray.toList_eq];have:a.data.size=0:=by have:a.data.size=a.size:=rfl; omega
 exact Array.toList_eq_nil_iff.2 (Array.size_eq_zero_iff.1 this)
theorem ba_toList_cons {a:ByteArray} (h:1≤a.size):¬ a.toList=[]:=by
 rw [ByteArray.toList_eq];intro e;have:=Array.toList_eq_nil_iff.1 e;have h2:a.data.size=a.size:=rfl;rw [this] at h2; simp at h2; omega
theorem implPieceRight_any (p:Pc) (w:World) (h1:p.src.size≤1048576) (h2:p.dst.size≤1048576) (h3:p.data.size≤1048576) :
  Calls Tryz.prog 127 #[pcC p] w fun e w'=>e=.returned (.bool (pieceOk p))∧Below w.heap.size w w':=by
 have HB1:Hid (∀ W,Calls Tryz.prog 158 #[.string p.src,.string p.dst] W fun e w'=>e=.returned (.bool (pairOk p.src p.dst))∧w'=W):=fun W=>implPairP_any _ _ W (by unfold maxLen; omega) (by unfold maxLen; omega)
 have HB2:Hid (∀ W,Calls Tryz.prog 159 #[.int .i64 p.proto] W fun e w'=>e=.returned (.bool (isIn p.proto 0 255))∧w'=W):=fun W=>implByte_any _ W
 have HB3:Hid (∀ W,Calls Tryz.prog 160 #[.int .i64 p.off,.bool p.more,.string p.data,.int .i64 65535] W fun e w'=>e=.returned (.bool (pcV p.off p.more p.data 65535))∧w'=W):=fun W=>implPiece_any _ _ _ _ W h3
 have HB5:Hid (∀ W,Calls Tryz.prog 43 #[.int .i64 p.since] W fun e w'=>e=.returned (.bool (isTime p.since))∧w'=W):=fun W=>implTime_any _ W
 have HV:Hid (pieceOk p=(pairOk p.src p.dst&&(isIn p.proto 0 255&&(decide (0≤p.id)&&(decide (p.id≤4294967295)&&(decide (1≤p.data.size)&&(pcV p.off p.more p.data 65535&&isTime p.since))))))):=pieceOk_prog p;generalize pieceOk p=ok at *;generalize pairOk p.src p.dst=a1 at *;generalize isIn p.proto 0 255=a2 at *;generalize pcV p.off p.more p.data 65535=a4 at *;generalize isTime p.since=a5 at *;obtain ⟨src,dst,proto,id,off,more,data,since⟩:=p;unfold pcC;dsimp only at *;have HZ:Hid (Below w.heap.size w (w.alloc (.cells #[.string src,.string dst,.int .i64 proto,.int .i64 id,.int .i64 off,.bool more,.string data,.int .i64 since] 128))):=(Below.refl _ _).alloc (Nat.le_refl _) _;have hun:undef=Value.tuple #[]:=rfl;go_enter Tryz.func127,Tryz.ntmps127
 go_wp2_with fail
 refine (HB1.out _).mono ?_;rintro e w2 ⟨rfl,rfl⟩
 cases a1 with
 | false =>
  go_wp2_with fail
  go_ret;exact ⟨ret_bool (by rw [HV.out]; simp),HZ.out⟩
 | true =>
 go_wp2_with fail
 refine (HB2.out _).mono ?_;rintro e w2 ⟨rfl,rfl⟩
 cases a2 with
 | false =>
  go_wp2_with fail
  go_ret;exact ⟨ret_bool (by rw [HV.out]; simp),HZ.out⟩
 | true =>
 by_cases e1:0≤id
 ·rw [decide_eq_true e1] at HV;by_cases e2:id≤4294967295
  ·rw [decide_eq_true e2] at HV;by_cases e3:1≤data.size
   ·rw [decide_eq_true e3] at HV;have d3:=ba_toList_cons e3;go_wp2_with fail
    refine (HB3.out _).mono ?_;rintro e w2 ⟨rfl,rfl⟩
    cases a4 with
    | false =>
     go_wp2_with fail
     go_ret;exact ⟨ret_bool (by rw [HV.out]; simp [d3]),HZ.out⟩
    | true =>
     go_wp2_with fail
     refine (HB5.out _).mono ?_;rintro e w2 ⟨rfl,rfl⟩;go_wp2_with fail
     go_ret;exact ⟨ret_bool (by rw [HV.out]; simp [d3]),HZ.out⟩
   ·rw [decide_eq_false e3] at HV;have d3:=ba_toList_nil e3;go_wp2_with fail
    go_ret;exact ⟨ret_bool (by rw [HV.out]; simp),HZ.out⟩
  ·rw [decide_eq_false e2] at HV;have e2':decide (id≤4294967295)=false:=decide_eq_false e2;go_wp2_with fail
   go_ret;exact ⟨ret_bool (by rw [HV.out]; simp),HZ.out⟩
 ·rw [decide_eq_false e1] at HV;have e1':decide (0≤id)=false:=decide_eq_false e1;go_wp2_with fail
  go_ret;exact ⟨ret_bool (by rw [HV.out]; simp),HZ.out⟩
def OkOff (q:Pc):Prop:=0≤q.off∧q.off≤8191∧q.data.size≤1048576
theorem okOff_ok {q:Pc} (h:pieceOk q=true):OkOff q:=by
 have:=pcOk_in h; exact ⟨by omega,by omega,by omega⟩
theorem implAhead_any (p q:Pc) (w:World) (hp:OkOff p) (hq:OkOff q) :
  Calls Tryz.prog 173 #[pcC p,pcC q] w fun e w'=>e=.returned (.bool (aheadPc p q))∧Below w.heap.size w w':=by
 obtain ⟨p1,p2,p3⟩:=hp;obtain ⟨q1,q2,q3⟩:=hq;have HV:Hid (aheadPc p q=(p.more&&decide (8*p.off+p.data.size≤8*q.off))):=rfl;generalize aheadPc p q=ans at *;obtain ⟨src,dst,proto,id,off,more,data,since⟩:=p;obtain ⟨src',dst',proto',id',off',more',data',since'⟩:=q;unfold pcC;dsimp only at *;have HZ:Hid (∀ o1 o2,Below w.heap.size w ((w.alloc o1).alloc o2)):=fun o1 o2=>two_pieces w
 have hun:undef=Value.tuple #[]:=rfl
 cases more with
 | false =>
  go_enter Tryz.func173,Tryz.ntmps173
  go_wp2_with fail
  go_ret;exact ⟨ret_bool (by rw [HV.out]; rfl),HZ.out _ _⟩
 | true =>
  go_enter Tryz.func173,Tryz.ntmps173
  go_wp2_with fail
  go_ret;exact ⟨ret_bool (by rw [HV.out]; simp),HZ.out _ _⟩
theorem cells8 {w:World} {B:Nat} {p:Pc} (h:HoldsL w B (pcL p)):w.cell? ⟨B,0,none⟩=some (.string p.src)∧w.cell? ⟨B,1,none⟩=some (.string p.dst)∧w.cell? ⟨B,2,none⟩=some (.int .i64 p.proto)∧w.cell? ⟨B,3,none⟩=some (.int .i64 p.id)∧w.cell? ⟨B,4,none⟩=some (.int .i64 p.off)∧w.cell? ⟨B,5,none⟩=some (.bool p.more)∧w.cell? ⟨B,6,none⟩=some (.string p.data)∧w.cell? ⟨B,7,none⟩=some (.int .i64 p.since) :=
 ⟨h.cell rfl,h.cell rfl,h.cell rfl,h.cell rfl,h.cell rfl,h.cell rfl,h.cell rfl,h.cell rfl⟩
theorem implClash_any (p q:Pc) (B:Nat) (w:World) (hp:OkOff p) (hq:OkOff q) (hB:HoldsL w B (pcL p)) :
  Calls Tryz.prog 172 #[pcC q,.pointer (some ⟨B,0,none⟩)] w fun e w'=>e=.returned (.bool (clashPc p q))∧Below w.heap.size w w':=by
 have HA:Hid (∀ W,Calls Tryz.prog 173 #[pcC p,pcC q] W fun e w'=>e=.returned (.bool (aheadPc p q))∧Below W.heap.size W w'):=fun W=>implAhead_any p q W hp hq
 have HC:Hid (∀ W,Calls Tryz.prog 173 #[pcC q,pcC p] W fun e w'=>e=.returned (.bool (aheadPc q p))∧Below W.heap.size W w'):=fun W=>implAhead_any q p W hq hp
 have HV:Hid (clashPc p q=(!aheadPc p q&&!aheadPc q p)):=rfl;have hBl:=hB.lt (by simp [pcL]);have HB:Hid (HoldsL w B (pcL p)):=hB;obtain ⟨k0,k1,k2,k3,k4,k5,k6,k7⟩:=cells8 hB;have HN:Hid (HoldsL (w.alloc (.cells (pcL q).toArray 128)) w.heap.size (pcL q)):=HoldsL.new w (pcL q) _;have HBN:Hid (HoldsL (w.alloc (.cells (pcL q).toArray 128)) B (pcL p)):=hB.alloc _;have HZ:Hid (Below w.heap.size w (w.alloc (.cells (pcL q).toArray 128))):=(Below.refl _ _).alloc (Nat.le_refl _) _;rw [show (pcL q).toArray=#[.string q.src,.string q.dst,.int .i64 q.proto,.int .i64 q.id,.int .i64 q.off,.bool q.more,.string q.data,.int .i64 q.since] from rfl] at HN HBN HZ;clear hB;generalize clashPc p q=ans at *;generalize aheadPc p q=a1 at *;generalize aheadPc q p=a2 at *;unfold pcC at *;have hun:undef=Value.tuple #[]:=rfl;go_enter Tryz.func172,Tryz.ntmps172
 go_wp2_with fail
 refine (HA.out _).mono ?_;rintro e w1 ⟨rfl,b1⟩;have B1:Hid (Below w.heap.size w w1):=HZ.out.trans (b1.mono (by simp));have N1:=HN.out.kept (by simp [pcL]) b1;have P1:=HBN.out.kept (by simp [pcL]) b1;clear k0 k1 k2 k3 k4 k5 k6 k7 HN HBN HZ b1
 cases a1 with
 | true =>
  clear N1 P1;go_wp2_with fail
  go_ret;exact ⟨ret_bool (by rw [HV.out]; rfl),B1.out⟩
 | false =>
  obtain ⟨k0,k1,k2,k3,k4,k5,k6,k7⟩:=cells8 P1;obtain ⟨n0,n1,n2,n3,n4,n5,n6,n7⟩:=cells8 N1;clear N1 P1;go_wp2_with fail
  refine (HC.out _).mono ?_;rintro e w2 ⟨rfl,b2⟩;go_wp2_with fail
  go_ret;exact ⟨ret_bool (by rw [HV.out]; simp),B1.out.trans (b2.mono B1.out.size)⟩
theorem index_any (p:Pc) (ys:List Pc) (a:Option Addr) (cap B:Nat) (w:World) (hl:ys.length≤1048576) (hr:SlIs pcL 8 w a ys) (hp:OkOff p) (hy:∀ q∈ys,OkOff q) (hB:HoldsL w B (pcL p)) :
  Calls Tryz.prog 171 #[.slice a ys.length cap,.func (.func 172) #[] #[.pointer (some ⟨B,0,none⟩)]] w fun e w'=>∃ j:Int,e=.returned (.int .i64 j)∧-1≤j∧j≤1048576∧Hid (decide (0≤j)=ys.any (fun q=>clashPc p q))∧Below w.heap.size w w':=by
 have HR:Hid (SlIs pcL 8 w a ys):=hr;have HC:Hid (∀ W,Below w.heap.size w W→∀ q,q∈ys→Calls Tryz.prog 172 #[pcC q,.pointer (some ⟨B,0,none⟩)] W fun e w'=>e=.returned (.bool (clashPc p q))∧Below W.heap.size W w'):=fun W hW q hq=>implClash_any p q B W hp (hy q hq) (hB.kept (by simp [pcL]) hW)
 clear hr hp hy hB;go_enter Tryz.func171,Tryz.ntmps171
 go_wp2_with fail
 go_loopw [8] (fun iv wr=>∃ i:Nat,i≤ys.length∧iv=.int .i64 i∧(ys.take i).any (fun q=>clashPc p q)=false∧Below w.heap.size w wr) (fun iv _=>ys.length-(intOf iv).toNat)
 case atStart=>exact ⟨0,Nat.zero_le _,rfl,by simp,Below.refl _ _⟩
 case round =>
  obtain ⟨i,hil,rfl,hn,hb⟩:=hrel;have HN:Hid ((ys.take i).any (fun q=>clashPc p q)=false):=hn;have HW:Hid (Below w.heap.size w wr):=hb;clear hn hb;by_cases hlt:i < ys.length
  ·obtain ⟨b,off,rfl,hb,hat⟩:=HR.out.at hlt;have hA:=(hat.below hb HW.out) i hlt;have HT:Hid ((ys.take (i+1)).any (fun q=>clashPc p q)=clashPc p ys[i]):=by
    unfold Hid;rw [List.take_succ_eq_append_getElem hlt,List.any_append,HN.out]; simp
   have HQ:Hid (ys[i]∈ys):=List.getElem_mem hlt;have HX:Hid (clashPc p ys[i]=true→ys.any (fun q=>clashPc p q)=true):=fun h=>List.any_eq_true.2 ⟨_,List.getElem_mem hlt,h⟩
   have HC2:Hid _:=HC.out wr HW.out ys[i] HQ.out;generalize ys[i]=q at *;have c0:wr.cell? ⟨b,off+i*8,none⟩=some (.string q.src):=hA 0 _ rfl;have c1:wr.cell? ⟨b,off+i*8+1,none⟩=some (.string q.dst):=hA 1 _ rfl;have c2:wr.cell? ⟨b,off+i*8+2,none⟩=some (.int .i64 q.proto):=hA 2 _ rfl;have c3:wr.cell? ⟨b,off+i*8+3,none⟩=some (.int .i64 q.id):=hA 3 _ rfl;have c4:wr.cell? ⟨b,off+i*8+4,none⟩=some (.int .i64 q.off):=hA 4 _ rfl;have c5:wr.cell? ⟨b,off+i*8+5,none⟩=some (.bool q.more):=hA 5 _ rfl;have c6:wr.cell? ⟨b,off+i*8+6,none⟩=some (.string q.data):=hA 6 _ rfl;have c7:wr.cell? ⟨b,off+i*8+7,none⟩=some (.int .i64 q.since):=hA 7 _ rfl;clear hA hat HQ;generalize clashPc p q=cl at *;unfold pcC at HC2;go_wp2_with fail
   refine Calls.mono HC2.out ?_;rintro e w1 ⟨rfl,b1⟩;have HW1:Hid (Below w.heap.size w w1):=HW.out.trans (b1.mono HW.out.size);clear b1 c0 c1 c2 c3 c4 c5 c6 c7
   cases cl with
   | true =>
    have HF:Hid (decide (0≤(i:Int))=ys.any (fun q=>clashPc p q)):=by unfold Hid; rw [HX.out rfl]; simp
    go_wp2_with fail
    go_ret;exact ⟨i,rfl,by omega,by omega,HF,HW1.out⟩
   | false =>
    go_wp2_with fail
    go_roundw
    case rel=>exact ⟨i+1,by omega,by go_num,HT.out,HW1.out⟩
    case measure=>simp [intOf]; omega
  ·have hie:i=ys.length:=by omega
   have HF:Hid (decide (0≤(-1:Int))=ys.any (fun q=>clashPc p q)):=by
    have:=HN.out;rw [hie,List.take_of_length_le (Nat.le_refl _)] at this;unfold Hid; rw [this]; rfl
   go_wp2_with fail
   go_ret;exact ⟨-1,rfl,by omega,by omega,HF,HW.out⟩
theorem contains_any (p:Pc) (ys:List Pc) (a:Option Addr) (cap B:Nat) (w:World) (hl:ys.length≤1048576) (hr:SlIs pcL 8 w a ys) (hp:OkOff p) (hy:∀ q∈ys,OkOff q) (hB:HoldsL w B (pcL p)) :
  Calls Tryz.prog 162 #[.slice a ys.length cap,.func (.func 172) #[] #[.pointer (some ⟨B,0,none⟩)]] w fun e w'=>e=.returned (.bool (ys.any (fun q=>clashPc p q)))∧Below w.heap.size w w':=by
 have HI:Hid _:=index_any p ys a cap B w hl hr hp hy hB;generalize ys.any (fun q=>clashPc p q)=ans at *;clear hr hp hy hB;go_enter Tryz.func162,Tryz.ntmps162
 go_wp2_with fail
 refine Calls.mono HI.out ?_;rintro e w1 ⟨j,rfl,h1,h2,h3,b1⟩;have B1:Hid _:=b1;clear b1;go_wp2_with fail
 go_ret;exact ⟨ret_bool h3.out,B1.out⟩
theorem implWith_any (p:Pc) (w:World) :
  Calls Tryz.prog 163 #[pcC p] w fun e w'=>∃ B,e=.returned (.func (.func 172) #[] #[.pointer (some ⟨B,0,none⟩)])∧HoldsL w' B (pcL p)∧Below w.heap.size w w':=by
 have HN:Hid (HoldsL (w.alloc (.cells (pcL p).toArray 128)) w.heap.size (pcL p)):=HoldsL.new w (pcL p) _;have HZ:Hid (Below w.heap.size w (w.alloc (.cells (pcL p).toArray 128))):=(Below.refl _ _).alloc (Nat.le_refl _) _;rw [show (pcL p).toArray=#[.string p.src,.string p.dst,.int .i64 p.proto,.int .i64 p.id,.int .i64 p.off,.bool p.more,.string p.data,.int .i64 p.since] from rfl] at HN HZ;unfold pcC;go_enter Tryz.func163,Tryz.ntmps163
 go_wp2_with fail
 go_ret;exact ⟨w.heap.size,rfl,HN.out,HZ.out⟩
theorem implKey_any (p:Pc) (w:World) :
  Calls Tryz.prog 161 #[pcC p] w fun e w'=>e=.returned (keyC p)∧Below w.heap.size w w':=by
 unfold pcC keyC;go_enter Tryz.func161,Tryz.ntmps161
 go_wp2_with fail
 refine bodyPost_ret (v:=.agg #[.string p.src,.string p.dst,.int .i64 p.proto,.int .i64 p.id]) (by simp [results,Tryz.results161,go_sem]) rfl ⟨rfl,?_⟩;exact ((Below.refl _ _).alloc (Nat.le_refl _) _).alloc (by simp) _
end Go.Proofs.YthagnjokdnnmpaaGreat
