import Derived.Test.YthagnjokdnnmpaaGreatMerged27
import Derived.Test.YthagnjokdnnmpaaGreatMerged5
import Derived.Test.YthagnjokdnnmpaaGreatMerged6
import Derived.Test.YthagnjokdnnmpaaGreatHoldL
import Derived.Deep.MidRow
import Derived.Deep.AppendLies
import Derived.Great.BuildSlice
import Derived.Test.YthagnjokdnnmpaaGreatGrowV
import Derived.Test.YthagnjokdnnmpaaGreatMerged11
set_option linter.unusedVariables false
set_option linter.unusedSimpArgs false
set_option maxRecDepth 100000
set_option maxHeartbeats 8000000
namespace Go.Proofs.YthagnjokdnnmpaaGreat
open Go.RowKit Go.PlainAid
theorem implCopy9_any (x:Bb) (ba bo:Option Addr) (ca cb:Nat) (w:World) (hbl1:x.binds.length≤1048576) (hbl2:x.sess.length≤1048576) (hgb:∀ q∈x.binds,BdGood q) (hgs:∀ s∈x.sess,SsGood s) (hx:BbIs w ba bo x) :
  Calls Tryz.prog 80 #[bbC ba bo ca cb x] w fun e w'=>CopyRet w.heap.size x e w'∧Below w.heap.size w w':=by
 have HSX:Hid (BbIs w ba bo x):=hx;have HGB:Hid (∀ q∈x.binds,BdGood q):=hgb;have HGS:Hid (∀ s∈x.sess,SsGood s):=hgs;have hRw:w.heap.size≤w.heap.size+1:=by omega
 clear hx hgb hgs;have e0:HoldsL ((w.alloc (.cells #[.slice ba x.binds.length ca,.slice bo x.sess.length cb] 36)).alloc (.cells #[.slice none 0 0,.slice none 0 0] 36)) (w.heap.size) [.slice ba x.binds.length ca,.slice bo x.sess.length cb]:=by
  have h:=HoldsL.new w [.slice ba x.binds.length ca,.slice bo x.sess.length cb] 36;try simp only [World.size_alloc] at h
  exact (h.alloc _)
 have e1:HoldsL ((w.alloc (.cells #[.slice ba x.binds.length ca,.slice bo x.sess.length cb] 36)).alloc (.cells #[.slice none 0 0,.slice none 0 0] 36)) (w.heap.size+1) [.slice none 0 0,.slice none 0 0]:=by
  have h:=HoldsL.new (w.alloc (.cells #[.slice ba x.binds.length ca,.slice bo x.sess.length cb] 36)) [.slice none 0 0,.slice none 0 0] 36;try simp only [World.size_alloc] at h
  exact h
 have HS0:Hid (Bxs w [(w.heap.size,[.slice ba x.binds.length ca,.slice bo x.sess.length cb]),(w.heap.size+1,[.slice none 0 0,.slice none 0 0])] ((w.alloc (.cells #[.slice ba x.binds.length ca,.slice bo x.sess.length cb] 36)).alloc (.cells #[.slice none 0 0,.slice none 0 0] 36))):=by
  refine ⟨fun e he=>?_,(((Below.refl _ _).alloc (by (try simp only [World.size_alloc]); omega) _).alloc (by (try simp only [World.size_alloc]); omega) _),fun e he=>?_⟩
  ·simp only [List.mem_cons,List.not_mem_nil,or_false] at he;rcases he with rfl | rfl
   ·exact e0
   ·exact e1
  ·simp only [List.mem_cons,List.not_mem_nil,or_false] at he;rcases he with rfl | rfl<;>simp
 clear e0 e1;have hun:undef=Value.tuple #[]:=rfl;unfold bbC;go_enter Tryz.func80,Tryz.ntmps80
 go_upto_region 1 with fail
 generalize ((w.alloc (.cells #[.slice ba x.binds.length ca,.slice bo x.sess.length cb] 36)).alloc (.cells #[.slice none 0 0,.slice none 0 0] 36))=W at *;have hlt1:w.heap.size+1 < W.heap.size:=(HS0.out.lts _ (.tail _ (.head _))).1;go_upto_region 2 with fail
 have HS1:Hid (RowsSt w (W.alloc (.cells #[.slice none 0 0,.slice none 0 0] 36)).heap.size W.heap.size [(w.heap.size,[.slice ba x.binds.length ca,.slice bo x.sess.length cb]),(w.heap.size+1,[.slice none 0 0,.slice none 0 0])] (.slice none 0 0) (.slice none 0 0) [] [] (W.alloc (.cells #[.slice none 0 0,.slice none 0 0] 36))):=by
  have bn:Below W.heap.size W (W.alloc (.cells #[.slice none 0 0,.slice none 0 0] 36)):=(Below.refl _ _).alloc (Nat.le_refl _) _;have hn:=HoldsL.new W [.slice none 0 0,.slice none 0 0] 36;refine RowsSt.start [(w.heap.size,[.slice ba x.binds.length ca,.slice bo x.sess.length cb]),(w.heap.size+1,[.slice none 0 0,.slice none 0 0])] hn (HS0.out.kept bn).b (HS0.out.kept bn).k (by omega) (fun e he=>?_);simp only [List.mem_cons,List.not_mem_nil,or_false] at he;rcases he with rfl | rfl
  ·refine ⟨by simp; omega,by show w.heap.size≠_; omega,by simp⟩
  ·refine ⟨by simp; omega,by show w.heap.size+1≠_; omega,by simp⟩
 clear HS0;generalize (W.alloc (.cells #[.slice none 0 0,.slice none 0 0] 36))=W3 at *;generalize W3.heap.size=base at *;have hO:w.heap.size+1 < W.heap.size:=hlt1;clear hlt1;generalize W.heap.size=O at *;have c0:W3.cell? ⟨w.heap.size,0,none⟩=some (.slice ba x.binds.length ca):=(show HoldsL W3 w.heap.size [.slice ba x.binds.length ca,.slice bo x.sess.length cb] from HS1.out.k _ (List.mem_cons_self ..)).cell rfl;go_wp2_with fail
 clear c0;go_loopw [11] (fun iv wr=>∃ (i:Nat) (v:Value),i≤x.binds.length∧iv=.int .i64 i∧RowsSt w base O [(w.heap.size,[.slice ba x.binds.length ca,.slice bo x.sess.length cb]),(w.heap.size+1,[.slice none 0 0,.slice none 0 0])] v (.slice none 0 0) (x.binds.take i) ([]) wr) (fun iv _=>x.binds.length-(intOf iv).toNat)
 case atStart=>exact ⟨0,_,Nat.zero_le _,rfl,HS1.out⟩
 case round =>
  obtain ⟨i,v,hi,rfl,hS⟩:=hrel;have S1:Hid _:=hS;clear hS HS1;generalize wr=w4 at *;by_cases hlt:i < x.binds.length
  case pos =>
   obtain ⟨bb,off,rfl,hb,hat⟩:=HSX.out.bd.at hlt;have hA:=(hat.below hb S1.out.b) i hlt;have HTK:Hid (x.binds.take (i+1)=x.binds.take i++[x.binds[i]]):=List.take_succ_eq_append_getElem hlt;have hfl:(x.binds.take i).length≤1048576:=by rw [List.length_take]; omega
   have hgd:=HGB.out x.binds[i] (List.getElem_mem hlt);obtain ⟨q,hq⟩ : ∃ q,q=x.binds[i]:=⟨_,rfl⟩;rw [← hq] at hA HTK hgd;have HGD:Hid (BdGood q):=hgd;have hltI:(i:Int) < (x.binds.length:Int):=by omega
   have s0:w4.cell? ⟨bb,off+i*5,none⟩=some (.int .i64 q.proto):=hA 0 _ rfl;have s1:w4.cell? ⟨bb,off+i*5+1,none⟩=some (.string q.inn):=hA 1 _ rfl;have s2:w4.cell? ⟨bb,off+i*5+2,none⟩=some (.int .i64 q.inPort):=hA 2 _ rfl;have s3:w4.cell? ⟨bb,off+i*5+3,none⟩=some (.string q.out):=hA 3 _ rfl;have s4:w4.cell? ⟨bb,off+i*5+4,none⟩=some (.int .i64 q.outPort):=hA 4 _ rfl;generalize x.binds.take i=zs at *;clear hA hat hq hgd hb;go_upto_region 5 with fail
   have bn:Below w4.heap.size w4 (w4.alloc (.cells #[.int .i64 q.proto,.string q.inn,.int .i64 q.inPort,.string q.out,.int .i64 q.outPort] 153)):=(Below.refl _ _).alloc (Nat.le_refl _) _;have HQ:Hid (HoldsL (w4.alloc (.cells #[.int .i64 q.proto,.string q.inn,.int .i64 q.inPort,.string q.out,.int .i64 q.outPort] 153)) w4.heap.size [.int .i64 q.proto,.string q.inn,.int .i64 q.inPort,.string q.out,.int .i64 q.outPort]):=HoldsL.new w4 [.int .i64 q.proto,.string q.inn,.int .i64 q.inPort,.string q.out,.int .i64 q.outPort] 153;have S2:Hid _:=S1.out.kept bn;generalize (w4.alloc (.cells #[.int .i64 q.proto,.string q.inn,.int .i64 q.inPort,.string q.out,.int .i64 q.outPort] 153))=W5 at *;clear bn S1 s0 s1 s2 s3 s4;generalize w4.heap.size=Bq at *;have HCY:Hid (∀ W,Calls Tryz.prog 108 #[.agg #[.int .i64 q.proto,.string q.inn,.int .i64 q.inPort,.string q.out,.int .i64 q.outPort]] W fun e w'=>e=.returned (.agg #[.int .i64 q.proto,.string q.inn,.int .i64 q.inPort,.string q.out,.int .i64 q.outPort])∧Below W.heap.size W w'):=fun W=>copyBind_any q W HGD.out.1 HGD.out.2.1
   have HCP:Hid (∀ wy,Below W5.drew.heap.size W5.drew wy→RowsSt w base O [(w.heap.size,[.slice (some ⟨bb,off,none⟩) x.binds.length ca,.slice bo x.sess.length cb]),(w.heap.size+1,[.slice none 0 0,.slice none 0 0])] v (.slice none 0 0) (zs) ([]) wy∧HoldsL wy Bq [.int .i64 q.proto,.string q.inn,.int .i64 q.inPort,.string q.out,.int .i64 q.outPort]):=fun wy hy=>⟨S2.out.kept ((Below.refl _ _).drew.trans hy),HQ.out.drew.kept (by simp) hy⟩
   clear hun;refine wp_region_growV [15,16,17,18,19] (by kernel_rfl) (by kernel_rfl) ?_;apply GChV.v0
   ·rfl
   ·intro K' a wy ho hd hb hK kz;have o3:=ho 3 (by decide);simp [slot] at o3;clear hd ho;go_simp;try go_bits
    exact kz _ rfl
   apply GChV.v1
   ·rfl
   ·intro K' a wy ho hd hb hK kz;have q0:=hd ⟨0,.data⟩ (by simp) rfl;simp [rAt,IsV,slot] at q0;clear hd ho;obtain ⟨hst,hqq⟩:=HCP.out wy hb;have ko:wy.cell? ⟨O,0,none⟩=some v:=hst.o.cell rfl;obtain ⟨s0,s1,s2,s3,s4⟩:=hqq.c5;go_simp;try go_bits
    exact kz _ rfl
   apply GChV.v2
   ·rfl
   ·intro K' a wy ho hd hb hK kz;have o5:=ho 5 (by decide);simp [slot] at o5;clear hd ho;obtain ⟨hst,hqq⟩:=HCP.out wy hb;have ko:wy.cell? ⟨O,0,none⟩=some v:=hst.o.cell rfl;obtain ⟨s0,s1,s2,s3,s4⟩:=hqq.c5;go_simp;try go_bits
    exact kz _ rfl
   apply GChV.v3
   ·rfl
   ·intro K' a wy ho hd hb hK kz;have q2:=hd ⟨2,.data⟩ (by simp) rfl;simp [rAt,IsV,slot] at q2;clear hd ho;go_simp;refine (HCY.out wy).mono ?_;rintro e wz ⟨rfl,hz⟩;exact hK _ _ rfl hz
   refine GChV.rel (n:=4) (IsOneC (bdL q)) (stable_isOneC _ (by simp [bdL])) [_,_,_,_,IsOneC (bdL q)] rfl rfl ?_ ?_
   ·intro K' a wy ho hd hb hK;rw [if_pos (wanted_none rfl)];have q3:=hd ⟨3,.data⟩ (by simp) rfl;simp [rAt,IsV,slot] at q3;clear hd ho;go_simp;exact hK _ _ ⟨wy.heap.size,rfl,HoldsL.new wy (bdL q) _⟩ ((Below.refl _ _).alloc (Nat.le_refl _) _)
   intro X wz hR hz;obtain ⟨x0,x1,x2,x3,x4,-⟩:=hR;have hk7:=x4;clear hk7;simp only [IsV] at x0 x1 x2 x3;simp only [putsFrom,x0,x1,x2,x3,putsFrom];clear x0 x1 x2 x3;obtain ⟨g7,e7,r7⟩:=x4;have SZ:=(HCP.out wz hz).1;obtain ⟨v6,w6,hrun,⟨gg,l6,c6,rfl⟩,hO6,S6⟩:=SZ.appB q g7 r7 hfl;have HRUN:Hid _:=hrun;have HS6:Hid _:=S6;have p1:w6.cell? ⟨O,0,none⟩=some v:=hO6.cell rfl;have p2:=hO6.free (j:=0) (by simp);clear hrun S6 hO6 SZ r7 hz HCP;simp only [e7];simp only [List.length_cons,List.length_nil,List.drop_succ_cons,List.drop_zero,Nat.zero_add,Nat.reduceAdd];intro K5 hK5;with_reducible refine wp_append_run (.tmp 16) (.tmp 19) _ rfl ?_ ?_ HRUN.out (hK5 _ _ ?_)
   ·simp [Act.eval,Act.put]
   ·simp [Act.eval,Act.put]
   intro K6 hK6;go_simp;refine hK6 _ _ ?_;intro K7 hK7;go_simp;refine hK7 _ _ ?_;simp only [wpSeq];go_wp2_with fail
   go_roundw
   case rel =>
    first | exact ⟨i+1,_,by omega,by go_num,by rw [HTK.out]; exact HS6.out⟩ | ((repeat apply Exists.intro); exact ⟨⟨i+1,_,by omega,by go_num,by rw [HTK.out]; exact HS6.out⟩,rfl⟩)
   case measure=>simp [intOf]<;>omega
  case neg =>
   have hie:i=x.binds.length:=by omega
   rw [hie,List.take_length] at S1;have hge:¬ (i:Int) < (x.binds.length:Int):=by omega
   clear hie hlt;obtain ⟨sa,sc,hsv,hsc,hso⟩:=S1.out.shapes.1;subst hsv;clear hsc hso;have c1:w4.cell? ⟨w.heap.size,1,none⟩=some (.slice bo x.sess.length cb):=(show HoldsL w4 w.heap.size [.slice ba x.binds.length ca,.slice bo x.sess.length cb] from S1.out.k _ (List.mem_cons_self ..)).cell rfl;go_wp2_with fail
   clear c1 hge;have S9:Hid _:=S1.out;clear S1;generalize w4=V4 at *;go_loopw [26] (fun iv wr=>∃ (i:Nat) (v:Value),i≤x.sess.length∧iv=.int .i64 i∧RowsSt w base O [(w.heap.size,[.slice ba x.binds.length ca,.slice bo x.sess.length cb]),(w.heap.size+1,[.slice none 0 0,.slice none 0 0])] (.slice sa x.binds.length sc) v (x.binds) (x.sess.take i) wr) (fun iv _=>x.sess.length-(intOf iv).toNat)
   case atStart=>exact ⟨0,_,Nat.zero_le _,rfl,S9.out⟩
   case round =>
    obtain ⟨i,v,hi,rfl,hS⟩:=hrel;have S1:Hid _:=hS;clear hS S9;generalize wr=w4 at *;by_cases hlt:i < x.sess.length
    case pos =>
     obtain ⟨bb,off,rfl,hb,hat⟩:=HSX.out.ss.at hlt;have hA:=(hat.below hb S1.out.b) i hlt;have HTK:Hid (x.sess.take (i+1)=x.sess.take i++[x.sess[i]]):=List.take_succ_eq_append_getElem hlt;have hfl:(x.sess.take i).length≤1048576:=by rw [List.length_take]; omega
     have hgd:=HGS.out x.sess[i] (List.getElem_mem hlt);obtain ⟨q,hq⟩ : ∃ q,q=x.sess[i]:=⟨_,rfl⟩;rw [← hq] at hA HTK hgd;have HGD:Hid (SsGood q):=hgd;have hltI:(i:Int) < (x.sess.length:Int):=by omega
     have s0:w4.cell? ⟨bb,off+i*7,none⟩=some (.int .i64 q.proto):=hA 0 _ rfl;have s1:w4.cell? ⟨bb,off+i*7+1,none⟩=some (.string q.inn):=hA 1 _ rfl;have s2:w4.cell? ⟨bb,off+i*7+2,none⟩=some (.int .i64 q.inPort):=hA 2 _ rfl;have s3:w4.cell? ⟨bb,off+i*7+3,none⟩=some (.string q.peer):=hA 3 _ rfl;have s4:w4.cell? ⟨bb,off+i*7+4,none⟩=some (.int .i64 q.peerPort):=hA 4 _ rfl;have s5:w4.cell? ⟨bb,off+i*7+5,none⟩=some (.int .i64 q.state):=hA 5 _ rfl;have s6:w4.cell? ⟨bb,off+i*7+6,none⟩=some (.int .i64 q.untl):=hA 6 _ rfl;generalize x.sess.take i=zs at *;clear hA hat hq hgd hb;go_upto_region 10 with fail
     have bn:Below w4.heap.size w4 (w4.alloc (.cells #[.int .i64 q.proto,.string q.inn,.int .i64 q.inPort,.string q.peer,.int .i64 q.peerPort,.int .i64 q.state,.int .i64 q.untl] 150)):=(Below.refl _ _).alloc (Nat.le_refl _) _;have HQ:Hid (HoldsL (w4.alloc (.cells #[.int .i64 q.proto,.string q.inn,.int .i64 q.inPort,.string q.peer,.int .i64 q.peerPort,.int .i64 q.state,.int .i64 q.untl] 150)) w4.heap.size [.int .i64 q.proto,.string q.inn,.int .i64 q.inPort,.string q.peer,.int .i64 q.peerPort,.int .i64 q.state,.int .i64 q.untl]):=HoldsL.new w4 [.int .i64 q.proto,.string q.inn,.int .i64 q.inPort,.string q.peer,.int .i64 q.peerPort,.int .i64 q.state,.int .i64 q.untl] 150;have S2:Hid _:=S1.out.kept bn;generalize (w4.alloc (.cells #[.int .i64 q.proto,.string q.inn,.int .i64 q.inPort,.string q.peer,.int .i64 q.peerPort,.int .i64 q.state,.int .i64 q.untl] 150))=W5 at *;clear bn S1 s0 s1 s2 s3 s4 s5 s6;generalize w4.heap.size=Bq at *;have HCY:Hid (∀ W,Calls Tryz.prog 106 #[.agg #[.int .i64 q.proto,.string q.inn,.int .i64 q.inPort,.string q.peer,.int .i64 q.peerPort,.int .i64 q.state,.int .i64 q.untl]] W fun e w'=>e=.returned (.agg #[.int .i64 q.proto,.string q.inn,.int .i64 q.inPort,.string q.peer,.int .i64 q.peerPort,.int .i64 q.state,.int .i64 q.untl])∧Below W.heap.size W w'):=fun W=>copySession_any q W HGD.out.1 HGD.out.2.1
     have HCP:Hid (∀ wy,Below W5.drew.heap.size W5.drew wy→RowsSt w base O [(w.heap.size,[.slice ba x.binds.length ca,.slice (some ⟨bb,off,none⟩) x.sess.length cb]),(w.heap.size+1,[.slice none 0 0,.slice none 0 0])] (.slice sa x.binds.length sc) v (x.binds) (zs) wy∧HoldsL wy Bq [.int .i64 q.proto,.string q.inn,.int .i64 q.inPort,.string q.peer,.int .i64 q.peerPort,.int .i64 q.state,.int .i64 q.untl]):=fun wy hy=>⟨S2.out.kept ((Below.refl _ _).drew.trans hy),HQ.out.drew.kept (by simp) hy⟩
     clear hun;refine wp_region_growV [30,31,32,33,34] (by kernel_rfl) (by kernel_rfl) ?_;apply GChV.v0
     ·rfl
     ·intro K' a wy ho hd hb hK kz;have o3:=ho 3 (by decide);simp [slot] at o3;clear hd ho;go_simp;try go_bits
      exact kz _ rfl
     apply GChV.v1
     ·rfl
     ·intro K' a wy ho hd hb hK kz;have q0:=hd ⟨0,.data⟩ (by simp) rfl;simp [rAt,IsV,slot] at q0;clear hd ho;obtain ⟨hst,hqq⟩:=HCP.out wy hb;have ko:wy.cell? ⟨O,1,none⟩=some v:=hst.o.cell rfl;obtain ⟨s0,s1,s2,s3,s4,s5,s6⟩:=hqq.c7;go_simp;try go_bits
      exact kz _ rfl
     apply GChV.v2
     ·rfl
     ·intro K' a wy ho hd hb hK kz;have o7:=ho 7 (by decide);simp [slot] at o7;clear hd ho;obtain ⟨hst,hqq⟩:=HCP.out wy hb;have ko:wy.cell? ⟨O,1,none⟩=some v:=hst.o.cell rfl;obtain ⟨s0,s1,s2,s3,s4,s5,s6⟩:=hqq.c7;go_simp;try go_bits
      exact kz _ rfl
     apply GChV.v3
     ·rfl
     ·intro K' a wy ho hd hb hK kz;have q2:=hd ⟨2,.data⟩ (by simp) rfl;simp [rAt,IsV,slot] at q2;clear hd ho;go_simp;refine (HCY.out wy).mono ?_;rintro e wz ⟨rfl,hz⟩;exact hK _ _ rfl hz
     refine GChV.rel (n:=4) (IsOneC (ssL q)) (stable_isOneC _ (by simp [ssL])) [_,_,_,_,IsOneC (ssL q)] rfl rfl ?_ ?_
     ·intro K' a wy ho hd hb hK;rw [if_pos (wanted_none rfl)];have q3:=hd ⟨3,.data⟩ (by simp) rfl;simp [rAt,IsV,slot] at q3;clear hd ho;go_simp;exact hK _ _ ⟨wy.heap.size,rfl,HoldsL.new wy (ssL q) _⟩ ((Below.refl _ _).alloc (Nat.le_refl _) _)
     intro X wz hR hz;obtain ⟨x0,x1,x2,x3,x4,-⟩:=hR;have hk7:=x4;clear hk7;simp only [IsV] at x0 x1 x2 x3;simp only [putsFrom,x0,x1,x2,x3,putsFrom];clear x0 x1 x2 x3;obtain ⟨g7,e7,r7⟩:=x4;have SZ:=(HCP.out wz hz).1;obtain ⟨v6,w6,hrun,⟨gg,l6,c6,rfl⟩,hO6,S6⟩:=SZ.appS q g7 r7 hfl;have HRUN:Hid _:=hrun;have HS6:Hid _:=S6;have p1:w6.cell? ⟨O,1,none⟩=some v:=hO6.cell rfl;have p2:=hO6.free (j:=1) (by simp);clear hrun S6 hO6 SZ r7 hz HCP;simp only [e7];simp only [List.length_cons,List.length_nil,List.drop_succ_cons,List.drop_zero,Nat.zero_add,Nat.reduceAdd];intro K5 hK5;with_reducible refine wp_append_run (.tmp 31) (.tmp 34) _ rfl ?_ ?_ HRUN.out (hK5 _ _ ?_)
     ·simp [Act.eval,Act.put]
     ·simp [Act.eval,Act.put]
     intro K6 hK6;go_simp;refine hK6 _ _ ?_;intro K7 hK7;go_simp;refine hK7 _ _ ?_;simp only [wpSeq];go_wp2_with fail
     go_roundw
     case rel =>
      first | exact ⟨i+1,_,by omega,by go_num,by rw [HTK.out]; exact HS6.out⟩ | ((repeat apply Exists.intro); exact ⟨⟨i+1,_,by omega,by go_num,by rw [HTK.out]; exact HS6.out⟩,rfl⟩)
     case measure=>simp [intOf]<;>omega
    case neg =>
     have hie:i=x.sess.length:=by omega
     rw [hie,List.take_length] at S1;have hge:¬ (i:Int) < (x.sess.length:Int):=by omega
     clear hie hlt;obtain ⟨sb,cs1,hsv,_,_⟩:=S1.out.shapes.2;subst hsv;have HHz:=S1.out.at (.tail _ (.head _));obtain ⟨z0,z1⟩:=HHz.c2;obtain ⟨zf0,zf1⟩:=HHz.f2;have HRR:Hid (HoldsL ((w4.setCell ⟨w.heap.size+1,0,none⟩ (.slice sa x.binds.length sc)).setCell ⟨w.heap.size+1,1,none⟩ (.slice sb x.sess.length cs1)) (w.heap.size+1) [.slice sa x.binds.length sc,.slice sb x.sess.length cs1]):=(HHz.set 0 (.slice sa x.binds.length sc)).set 1 (.slice sb x.sess.length cs1);have RB:Hid (Below w.heap.size w ((w4.setCell ⟨w.heap.size+1,0,none⟩ (.slice sa x.binds.length sc)).setCell ⟨w.heap.size+1,1,none⟩ (.slice sb x.sess.length cs1))):=(S1.out.b.setCell (p:=⟨w.heap.size+1,0,none⟩) hRw _).setCell (p:=⟨w.heap.size+1,1,none⟩) hRw _;have hkb:w.heap.size+1 < base:=(S1.out.kb _ (.tail _ (.head _))).1;have hwb:w.heap.size≤base:=by omega
     have O1:Hid (World.ownsRow ((w4.setCell ⟨w.heap.size+1,0,none⟩ (.slice sa x.binds.length sc)).setCell ⟨w.heap.size+1,1,none⟩ (.slice sb x.sess.length cs1)) w.heap.size 153 5 (.slice sa x.binds.length sc) x.binds.length (flatS bdL x.binds)):=rowDown (ownC_cell (ownC_cell S1.out.bo (ownC_ne S1.out.bo hkb)) (ownC_ne S1.out.bo hkb)) hwb;have O2:Hid (World.ownsRow ((w4.setCell ⟨w.heap.size+1,0,none⟩ (.slice sa x.binds.length sc)).setCell ⟨w.heap.size+1,1,none⟩ (.slice sb x.sess.length cs1)) w.heap.size 150 7 (.slice sb x.sess.length cs1) x.sess.length (flatS ssL x.sess)):=rowDown (ownC_cell (ownC_cell S1.out.so (ownC_ne S1.out.so hkb)) (ownC_ne S1.out.so hkb)) hwb;obtain ⟨p0,p1⟩:=S1.out.o.c2;clear HHz S1;go_wp2_with fail
     exact bodyPost_ret (results_mid Tryz.results80 _ _ (w.heap.size+1) [.slice sa x.binds.length sc,.slice sb x.sess.length cs1] _ rfl HRR.out Tryz.underlying36 rfl (show (Tryz.prog.info? 36).map (·.size)=some 2 by kernel_rfl)) rfl (And.intro ⟨_,_,rfl,O1.out,O2.out⟩ RB.out)
section
variable (n:Nat)
end
def bytesC (a:ByteArray):List Value:=a.data.toList.map fun x=>Value.int .u8 (x.toNat:Int)
def rowC (a:ByteArray) (b:Int):List Value:=bytesC a++[.int .i64 b]
theorem bytesC_length (a:ByteArray):(bytesC a).length=a.size:=by unfold bytesC; rw [List.length_map,Array.length_toList]; rfl
theorem rowC_length (a:ByteArray) (b:Int):(rowC a b).length=a.size+1:=by unfold rowC; rw [List.length_append,bytesC_length]; rfl
def hopC (q:Rt):List Value:=rowC q.addr q.bits++[.int .i64 q.hop]
def flatH (ms:List Rt):List Value:=ms.flatMap hopC
theorem hopC_length (q:Rt):(hopC q).length=q.addr.size+2:=by unfold hopC; rw [List.length_append,rowC_length]; rfl
section
variable {w W:World} {B o:Nat} {xs ys:List Value}
theorem rangeAt_left (h:w.rangeAt B o (xs++ys)):w.rangeAt B o xs:=fun j v hv=>h j v (by rw [List.getElem?_append_left (List.getElem?_eq_some_iff.1 hv).1]; exact hv)
theorem HoldsL.left (h:HoldsL w B (xs++ys)):w.rangeAt B 0 xs:=rangeAt_left h.at0
end
theorem flatH_get (n:Nat):∀ (ms:List Rt) (hm:∀ q∈ms,q.addr.size=n) (i:Nat) (h:i < ms.length) (j:Nat) (v:Value),(hopC ms[i])[j]?=some v→(flatH ms)[i*(n+2)+j]?=some v
 | [],_,i,h,_,_,_=>by simp at h
 | q::ms,hm,0,h,j,v,hv=>by
  have hv:(hopC q)[j]?=some v:=hv;unfold flatH;rw [List.flatMap_cons,Nat.zero_mul,Nat.zero_add,List.getElem?_append_left (List.getElem?_eq_some_iff.1 hv).1]; exact hv
 | q::ms,hm,i+1,h,j,v,hv=>by
  have ih:=flatH_get n ms (fun x hx=>hm x (by simp [hx])) i (by simpa using h) j v (by simpa using hv);unfold flatH at *;have hl:(hopC q).length=n+2:=by rw [hopC_length,hm q (by simp)]
  rw [List.flatMap_cons,List.getElem?_append_right (by rw [hl,Nat.succ_mul]; omega),hl];rw [show (i+1)*(n+2)+j-(n+2)=i*(n+2)+j by rw [Nat.succ_mul]; omega];exact ih
def MoreAt (w:World) (n:Nat) (E:TypeId) (mv:Value) (ms:List Rt):Prop:=w.ownsRow 0 E (n+2) mv ms.length (flatH ms)
section
variable {w W:World} {n E:Nat} {mv:Value} {ms:List Rt}
theorem MoreAt.nil:MoreAt w n E (.slice none 0 0) []:=⟨by simp [flatH],.inl ⟨rfl,rfl⟩⟩
theorem MoreAt.shape (h:MoreAt w n E mv ms):(mv=.slice none 0 0∧ms=[])∨∃ g cap,mv=.slice (some ⟨g,0,none⟩) ms.length cap∧ms.length≤cap∧g < w.heap.size:=by
 rcases h.2 with ⟨h1,h2⟩ | ⟨g,cap,cur,h1,_,hg,hc,_⟩
 ·exact .inl ⟨h1,List.length_eq_zero_iff.1 h2⟩
 ·exact .inr ⟨g,cap,h1,hc,(Array.getElem?_eq_some_iff.1 hg).1⟩
theorem MoreAt.one (h:MoreAt w n E mv ms):mv.oneCell'=true:=by
 rcases h.shape with ⟨rfl,_⟩ | ⟨g,cap,rfl,_,_⟩<;>rfl
theorem MoreAt.get {g cap:Nat} (h:MoreAt w n E (.slice (some ⟨g,0,none⟩) ms.length cap) ms) (hm:∀ q∈ms,q.addr.size=n) (i:Nat) (hi:i < ms.length):w.rangeAt g (i*(n+2)) (hopC ms[i]):=fun j v hv=>by
 have hj:j < n+2:=by have:=(List.getElem?_eq_some_iff.1 hv).1; rwa [hopC_length,hm _ (List.getElem_mem hi)] at this
 have hlt:i*(n+2)+j < ms.length*(n+2):=by
  have:=Nat.mul_le_mul_right (n+2) (show i+1≤ms.length from hi);rw [Nat.succ_mul] at this; omega
 rw [World.ownsRow.cellAt h _ hlt];exact flatH_get n ms hm i hi j v hv
theorem MoreAt.kept {row:Option Nat} (h:MoreAt w n E mv ms) (hg:w.grownBy W row) (hne:mv.ownBlock=none∨mv.ownBlock≠row):MoreAt W n E mv ms:=World.ownsRow.kept h hg hne
theorem MoreAt.below (h:MoreAt w n E mv ms) (hB:Below w.heap.size w W):MoreAt W n E mv ms:=h.kept (grown_of_below (r:=none) hB) (by cases mv.ownBlock<;>simp)
end
structure FSt (w:World) (m X:Nat) (cs zs:List Value) (mv:Value) (wx:World):Prop where
 x:HoldsL wx X cs
 z:HoldsL wx (w.heap.size+1) zs
 c:wx.cell? ⟨w.heap.size,m,none⟩=some mv
 b:Below w.heap.size w wx
 le:w.heap.size+1+1≤X
section
variable {w wx wy:World} {m X:Nat} {cs zs:List Value} {mv:Value}
theorem FSt.set (h:FSt w m X cs zs mv wx) (j:Nat) (v:Value):FSt w m X (cs.set j v) zs mv (wx.setCell ⟨X,j,none⟩ v):=by
 have hle:=h.le;exact ⟨h.x.set j v,h.z.setOther (by omega) v,(World.cell?_setCell_other _ _ _ _ (fun e=>by injection e with e1 _; omega)).trans h.c,h.b.setCell (by show w.heap.size≤X; omega) v,hle⟩
theorem FSt.below (h:FSt w m X cs zs mv wx) (hx:0 < cs.length) (hz:0 < zs.length) (hB:Below wx.heap.size wx wy):FSt w m X cs zs mv wy :=
 ⟨h.x.kept hx hB,h.z.kept hz hB,((bcell hB).1 _ _ (World.block_lt_of_cell? wx _ h.c)).trans h.c,h.b.trans (hB.mono h.b.size),h.le⟩
theorem FSt.grown {row:Option Nat} (h:FSt w m X cs zs mv wx) (hx:0 < cs.length) (hz:0 < zs.length) (hg:wx.grownBy wy row) (hr:∀ g,row=some g→w.heap.size+1+1≤g∧g≠X):FSt w m X cs zs mv wy:=by
 have h1:some X≠row:=fun e=>(hr X e.symm).2 rfl
 have h2:some (w.heap.size+1)≠row:=fun e=>by have:=(hr _ e.symm).1; omega
 have h3:some w.heap.size≠row:=fun e=>by have:=(hr _ e.symm).1; omega
 refine ⟨h.x.grown hx hg h1,h.z.grown hz hg h2,hg.cell h.c h3,?_,h.le⟩;exact ⟨hg.os.trans h.b.os,hg.tape.trans h.b.tape,hg.output.trans h.b.output,Nat.le_trans h.b.size hg.size,fun k hk=>by
  rw [hg.block k (Nat.lt_of_lt_of_le hk h.b.size) (fun e=>by have:=(hr k e.symm).1; omega)]; exact h.b.block k hk⟩
theorem FSt.alloc (h:FSt w m X cs zs mv wx) (hx:0 < cs.length) (hz:0 < zs.length) (o:Obj):FSt w m X cs zs mv (wx.alloc o):=h.below hx hz ((Below.refl _ _).alloc (Nat.le_refl _) o)
theorem FSt.drew (h:FSt w m X cs zs mv wx):FSt w m X cs zs mv wx.drew:=⟨h.x.drew,h.z.drew,h.c,h.b.drew,h.le⟩
end
end Go.Proofs.YthagnjokdnnmpaaGreat
