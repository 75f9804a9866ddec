import Derived.Test.YthagnjokdnnmpaaGreatMerged21
import Derived.Test.YthagnjokdnnmpaaGreatMerged17
import Derived.Great.BuildSlice
set_option linter.unusedVariables false
set_option linter.unusedSimpArgs false
set_option maxRecDepth 100000
set_option maxHeartbeats 8000000
namespace Go.Proofs.YthagnjokdnnmpaaGreat
open Go.RowKit Go.PlainAid
theorem implBibTick_any (pa:Option Addr) (pc:Nat) (p:Pl) (ba bo:Option Addr) (ca cb:Nat) (x:Bb) (now:Int) (w:World) (hpl:p.addrs.length≤1048576) (hpc:p.addrs.length≤pc) (hps:∀ s∈p.addrs,s.size≤1048576) (hbl1:x.binds.length≤1048576) (hbl2:x.sess.length≤1048576) (hgb:∀ q∈x.binds,BdGood q) (hgs:∀ s∈x.sess,SsGood s) (hp:SlIs strL1 1 w pa p.addrs) (hx:BbIs w ba bo x) :
  Calls Tryz.prog 73 #[plC pa pc p,bbC ba bo ca cb x,.int .i64 now] w fun e w'=>BbRet w.heap.size (bibTickV p x now) e w'∧Below w.heap.size w w':=by
 have HZ0:Hid (Below w.heap.size w (((w.alloc (.cells #[.slice pa p.addrs.length pc,.int .i64 p.low,.int .i64 p.high,.int .i64 p.most,.int .i64 p.filter,.int .i64 p.lv.udp,.int .i64 p.lv.echo,.int .i64 p.lv.opening,.int .i64 p.lv.opn,.int .i64 p.lv.closing] 28)).alloc (.cells #[.slice ba x.binds.length ca,.slice bo x.sess.length cb] 36)).alloc (.cells #[.slice none 0 0,.slice none 0 0] 36))):=(((Below.refl _ _).alloc (Nat.le_refl _) _).alloc (by simp) _).alloc (by simp; omega) _;have HP:Hid (HoldsL (((w.alloc (.cells #[.slice pa p.addrs.length pc,.int .i64 p.low,.int .i64 p.high,.int .i64 p.most,.int .i64 p.filter,.int .i64 p.lv.udp,.int .i64 p.lv.echo,.int .i64 p.lv.opening,.int .i64 p.lv.opn,.int .i64 p.lv.closing] 28)).alloc (.cells #[.slice ba x.binds.length ca,.slice bo x.sess.length cb] 36)).alloc (.cells #[.slice none 0 0,.slice none 0 0] 36)) w.heap.size [.slice pa p.addrs.length pc,.int .i64 p.low,.int .i64 p.high,.int .i64 p.most,.int .i64 p.filter,.int .i64 p.lv.udp,.int .i64 p.lv.echo,.int .i64 p.lv.opening,.int .i64 p.lv.opn,.int .i64 p.lv.closing]):=((HoldsL.new w [.slice pa p.addrs.length pc,.int .i64 p.low,.int .i64 p.high,.int .i64 p.most,.int .i64 p.filter,.int .i64 p.lv.udp,.int .i64 p.lv.echo,.int .i64 p.lv.opening,.int .i64 p.lv.opn,.int .i64 p.lv.closing] 28).alloc _).alloc _;have HB:Hid (HoldsL (((w.alloc (.cells #[.slice pa p.addrs.length pc,.int .i64 p.low,.int .i64 p.high,.int .i64 p.most,.int .i64 p.filter,.int .i64 p.lv.udp,.int .i64 p.lv.echo,.int .i64 p.lv.opening,.int .i64 p.lv.opn,.int .i64 p.lv.closing] 28)).alloc (.cells #[.slice ba x.binds.length ca,.slice bo x.sess.length cb] 36)).alloc (.cells #[.slice none 0 0,.slice none 0 0] 36)) (w.heap.size+1) [.slice ba x.binds.length ca,.slice bo x.sess.length cb]):=by
  have h:=(HoldsL.new (w.alloc (.cells #[.slice pa p.addrs.length pc,.int .i64 p.low,.int .i64 p.high,.int .i64 p.most,.int .i64 p.filter,.int .i64 p.lv.udp,.int .i64 p.lv.echo,.int .i64 p.lv.opening,.int .i64 p.lv.opn,.int .i64 p.lv.closing] 28)) [.slice ba x.binds.length ca,.slice bo x.sess.length cb] 36).alloc (.cells #[.slice none 0 0,.slice none 0 0] 36);rw [World.size_alloc] at h; exact h
 have HR:Hid (HoldsL (((w.alloc (.cells #[.slice pa p.addrs.length pc,.int .i64 p.low,.int .i64 p.high,.int .i64 p.most,.int .i64 p.filter,.int .i64 p.lv.udp,.int .i64 p.lv.echo,.int .i64 p.lv.opening,.int .i64 p.lv.opn,.int .i64 p.lv.closing] 28)).alloc (.cells #[.slice ba x.binds.length ca,.slice bo x.sess.length cb] 36)).alloc (.cells #[.slice none 0 0,.slice none 0 0] 36)) (w.heap.size+1+1) [.slice none 0 0,.slice none 0 0]):=by
  have h:=HoldsL.new ((w.alloc (.cells #[.slice pa p.addrs.length pc,.int .i64 p.low,.int .i64 p.high,.int .i64 p.most,.int .i64 p.filter,.int .i64 p.lv.udp,.int .i64 p.lv.echo,.int .i64 p.lv.opening,.int .i64 p.lv.opn,.int .i64 p.lv.closing] 28)).alloc (.cells #[.slice ba x.binds.length ca,.slice bo x.sess.length cb] 36)) [.slice none 0 0,.slice none 0 0] 36;rw [World.size_alloc,World.size_alloc] at h; exact h
 have HBR:Hid (∀ W,Below w.heap.size w W→Calls Tryz.prog 40 #[.agg #[.slice pa p.addrs.length pc,.int .i64 p.low,.int .i64 p.high,.int .i64 p.most,.int .i64 p.filter,.int .i64 p.lv.udp,.int .i64 p.lv.echo,.int .i64 p.lv.opening,.int .i64 p.lv.opn,.int .i64 p.lv.closing],.agg #[.slice ba x.binds.length ca,.slice bo x.sess.length cb]] W fun e w'=>e=.returned (.bool (bibOk p x))∧Below W.heap.size W w'):=fun W hW=>implBib_any pa pc p ba bo ca cb x W hpl hpc hps hbl1 hbl2 hgb hgs (hp.below hW) (hx.below hW)
 have HTM:Hid (∀ W,Calls Tryz.prog 43 #[.int .i64 now] W fun e w'=>e=.returned (.bool (isTime now))∧w'=W):=fun W=>implTime_any now W
 have HV:Hid (bibTickV p x now=if (bibOk p x&&isTime now)=true then tickV x now else bbZ):=rfl;have HSX:Hid (BbIs w ba bo x):=hx;have HGB:Hid (∀ q∈x.binds,BdGood q):=hgb;have HGS:Hid (∀ s∈x.sess,SsGood s):=hgs;generalize bibTickV p x now=ans at *;generalize bibOk p x=ok at *;generalize isTime now=tm at *;have hun:undef=Value.tuple #[]:=rfl;have hRw:w.heap.size≤w.heap.size+1+1:=by omega
 clear hp hx hgb hgs hps;unfold plC bbC;go_enter Tryz.func73,Tryz.ntmps73
 go_upto_region 1 with fail
 generalize ((w.alloc (.cells #[.slice pa p.addrs.length pc,.int .i64 p.low,.int .i64 p.high,.int .i64 p.most,.int .i64 p.filter,.int .i64 p.lv.udp,.int .i64 p.lv.echo,.int .i64 p.lv.opening,.int .i64 p.lv.opn,.int .i64 p.lv.closing] 28)).alloc (.cells #[.slice ba x.binds.length ca,.slice bo x.sess.length cb] 36)).alloc (.cells #[.slice none 0 0,.slice none 0 0] 36)=W0 at *;obtain ⟨k0,k1,k2,k3,k4,k5,k6,k7,k8,k9⟩:=HP.out.c10;obtain ⟨c0,c1⟩:=HB.out.c2;go_wp2_with fail
 refine (HBR.out _ HZ0.out).mono ?_;rintro e w1 ⟨rfl,q1⟩;have B1:Hid (Below w.heap.size w w1):=HZ0.out.trans (q1.mono HZ0.out.size);have X1:Hid _:=HB.out.kept (by simp) q1;have R1:Hid _:=HR.out.kept (by simp) q1;clear q1 HZ0 HP HB HR HBR k0 k1 k2 k3 k4 k5 k6 k7 k8 k9 c0 c1
 cases ok with
 | false =>
  have HX:Hid (ans=bbZ):=by unfold Hid; rw [HV.out]; rfl
  obtain ⟨z0,z1⟩:=R1.out.c2;obtain ⟨zf0,zf1⟩:=R1.out.f2;go_wp2_with fail
  refine bodyPost_ret (v:=.agg #[.slice none 0 0,.slice none 0 0]) (by simp [results,Tryz.results73,go_sem,z0,z1]) rfl (And.intro (by rw [HX.out]; exact ⟨none,none,0,0,rfl,.inl rfl,.inl rfl,fun g h e1=>by simp at e1⟩) ?_);exact (B1.out.setCell (p:=⟨w.heap.size+1+1,0,none⟩) hRw _).setCell (p:=⟨w.heap.size+1+1,1,none⟩) hRw _
 | true =>
 go_wp2_with fail
 refine (HTM.out _).mono ?_;rintro e w1 ⟨rfl,rfl⟩
 cases tm with
 | false =>
  have HX:Hid (ans=bbZ):=by unfold Hid; rw [HV.out]; rfl
  obtain ⟨z0,z1⟩:=R1.out.c2;obtain ⟨zf0,zf1⟩:=R1.out.f2;go_wp2_with fail
  refine bodyPost_ret (v:=.agg #[.slice none 0 0,.slice none 0 0]) (by simp [results,Tryz.results73,go_sem,z0,z1]) rfl (And.intro (by rw [HX.out]; exact ⟨none,none,0,0,rfl,.inl rfl,.inl rfl,fun g h e1=>by simp at e1⟩) ?_);exact (B1.out.setCell (p:=⟨w.heap.size+1+1,0,none⟩) hRw _).setCell (p:=⟨w.heap.size+1+1,1,none⟩) hRw _
 | true =>
 have HTV:Hid (ans=tickV x now):=by unfold Hid; rw [HV.out]; rfl
 clear HV HTM;have hlt1:w.heap.size+1+1 < w1.heap.size:=R1.out.lt (by simp);go_upto_region 4 with fail
 have HS0:Hid (RowsSt w (w1.alloc (.cells #[.slice none 0 0,.slice none 0 0] 36)).heap.size w1.heap.size [(w.heap.size+1,[.slice ba x.binds.length ca,.slice bo x.sess.length cb]),(w.heap.size+1+1,[.slice none 0 0,.slice none 0 0])] (.slice none 0 0) (.slice none 0 0) [] [] (w1.alloc (.cells #[.slice none 0 0,.slice none 0 0] 36))):=by
  have bn:Below w1.heap.size w1 (w1.alloc (.cells #[.slice none 0 0,.slice none 0 0] 36)):=(Below.refl _ _).alloc (Nat.le_refl _) _;have hn:=HoldsL.new w1 [.slice none 0 0,.slice none 0 0] 36;refine RowsSt.start [(w.heap.size+1,[.slice ba x.binds.length ca,.slice bo x.sess.length cb]),(w.heap.size+1+1,[.slice none 0 0,.slice none 0 0])] hn (B1.out.trans (bn.mono B1.out.size)) (fun e he=>?_) (by omega) (fun e he=>?_)
  ·simp at he;rcases he with rfl | rfl
   ·exact X1.out.kept (by simp) bn
   ·exact R1.out.kept (by simp) bn
  ·simp at he;rcases he with rfl | rfl
   ·refine ⟨by simp; omega,by show w.heap.size+1≠_; omega,by simp⟩
   ·refine ⟨by simp; omega,by show w.heap.size+1+1≠_; omega,by simp⟩
 generalize w1.alloc (.cells #[.slice none 0 0,.slice none 0 0] 36)=W3 at *;generalize W3.heap.size=base at *;clear R1 X1 B1;have hO:w.heap.size+1+1 < w1.heap.size:=hlt1;clear hlt1;generalize w1.heap.size=O at *;have c1:W3.cell? ⟨w.heap.size+1,1,none⟩=some (.slice bo x.sess.length cb):=(HS0.out.k _ (List.mem_cons_self ..)).cell rfl;go_wp2_with fail
 clear c1;go_loopw [25] (fun iv wr=>∃ (i:Nat) (sv:Value),i≤x.sess.length∧iv=.int .i64 i∧RowsSt w base O [(w.heap.size+1,[.slice ba x.binds.length ca,.slice bo x.sess.length cb]),(w.heap.size+1+1,[.slice none 0 0,.slice none 0 0])] (.slice none 0 0) sv ([]) ((x.sess.take i).filter (lateS now)) wr) (fun iv _=>x.sess.length-(intOf iv).toNat)
 case atStart=>exact ⟨0,_,Nat.zero_le _,rfl,HS0.out⟩
 case round =>
  obtain ⟨i,sv,hi,rfl,hS⟩:=hrel;have S1:Hid _:=hS;clear hS HS0;generalize wr=w4 at *;by_cases hlt:i < x.sess.length
  ·
   obtain ⟨bb,off,rfl,hb,hat⟩:=HSX.out.ss.at hlt;have hA:=(hat.below hb S1.out.b) i hlt;have HFO:Hid _:=filter_one (lateS now) x.sess i hlt;have hfl:=filter_most (lateS now) x.sess i hbl2;have hgd:=HGS.out x.sess[i] (List.getElem_mem hlt);obtain ⟨q,hq⟩ : ∃ q,q=x.sess[i]:=⟨_,rfl⟩;rw [← hq] at hA HFO hgd;have HGD:Hid (SsGood q):=hgd;have hltI:(i:Int) < (x.sess.length:Int):=by omega
   have s0:w4.cell? ⟨bb,off+i*7,none⟩=some (.int .i64 q.proto):=hA 0 _ rfl;have s1:w4.cell? ⟨bb,off+i*7+1,none⟩=some (.string q.inn):=hA 1 _ rfl;have s2:w4.cell? ⟨bb,off+i*7+2,none⟩=some (.int .i64 q.inPort):=hA 2 _ rfl;have s3:w4.cell? ⟨bb,off+i*7+3,none⟩=some (.string q.peer):=hA 3 _ rfl;have s4:w4.cell? ⟨bb,off+i*7+4,none⟩=some (.int .i64 q.peerPort):=hA 4 _ rfl;have s5:w4.cell? ⟨bb,off+i*7+5,none⟩=some (.int .i64 q.state):=hA 5 _ rfl;have s6:w4.cell? ⟨bb,off+i*7+6,none⟩=some (.int .i64 q.untl):=hA 6 _ rfl;generalize (x.sess.take i).filter (lateS now)=zs at *;clear hA hat hq hgd hb;go_upto_region 7 with fail
   have bn:Below w4.heap.size w4 (w4.alloc (.cells #[.int .i64 q.proto,.string q.inn,.int .i64 q.inPort,.string q.peer,.int .i64 q.peerPort,.int .i64 q.state,.int .i64 q.untl] 150)):=(Below.refl _ _).alloc (Nat.le_refl _) _;have HQ:Hid (HoldsL (w4.alloc (.cells #[.int .i64 q.proto,.string q.inn,.int .i64 q.inPort,.string q.peer,.int .i64 q.peerPort,.int .i64 q.state,.int .i64 q.untl] 150)) w4.heap.size [.int .i64 q.proto,.string q.inn,.int .i64 q.inPort,.string q.peer,.int .i64 q.peerPort,.int .i64 q.state,.int .i64 q.untl]):=HoldsL.new w4 [.int .i64 q.proto,.string q.inn,.int .i64 q.inPort,.string q.peer,.int .i64 q.peerPort,.int .i64 q.state,.int .i64 q.untl] 150;have S2:Hid _:=S1.out.kept bn;generalize w4.alloc (.cells #[.int .i64 q.proto,.string q.inn,.int .i64 q.inPort,.string q.peer,.int .i64 q.peerPort,.int .i64 q.state,.int .i64 q.untl] 150)=W5 at *;clear bn S1 s0 s1 s2 s3 s4 s5 s6;generalize w4.heap.size=Bq at *;have s6:=HQ.out.cell (j:=6) rfl;by_cases hlate:now < q.untl
   ·
    have HF2:Hid ((x.sess.take (i+1)).filter (lateS now)=zs++[q]):=by unfold Hid; rw [HFO.out,if_pos (by unfold lateS; exact decide_eq_true hlate)]
    clear HFO;go_upto_region 8 with fail
    clear s6;have HCY:Hid (∀ W,Calls Tryz.prog 106 #[.agg #[.int .i64 q.proto,.string q.inn,.int .i64 q.inPort,.string q.peer,.int .i64 q.peerPort,.int .i64 q.state,.int .i64 q.untl]] W fun e w'=>e=.returned (.agg #[.int .i64 q.proto,.string q.inn,.int .i64 q.inPort,.string q.peer,.int .i64 q.peerPort,.int .i64 q.state,.int .i64 q.untl])∧Below W.heap.size W w'):=fun W=>copySession_any q W HGD.out.1 HGD.out.2.1
    have HCP:Hid (∀ wy,Below W5.drew.heap.size W5.drew wy→RowsSt w base O [(w.heap.size+1,[.slice ba x.binds.length ca,.slice (some ⟨bb,off,none⟩) x.sess.length cb]),(w.heap.size+1+1,[.slice none 0 0,.slice none 0 0])] (.slice none 0 0) sv ([]) (zs) wy∧HoldsL wy Bq [.int .i64 q.proto,.string q.inn,.int .i64 q.inPort,.string q.peer,.int .i64 q.peerPort,.int .i64 q.state,.int .i64 q.untl]):=fun wy hy=>⟨S2.out.kept ((Below.refl _ _).drew.trans hy),HQ.out.drew.kept (by simp) hy⟩
    clear hun;refine wp_region_growV [33,34,35,36,37] (by kernel_rfl) (by kernel_rfl) ?_;apply GChV.v0
    ·rfl
    ·intro K' a wy ho hd hb hK kz;have o7:=ho 7 (by decide);simp [slot] at o7;clear hd ho;go_simp;try go_bits
     exact kz _ rfl
    apply GChV.v1
    ·rfl
    ·intro K' a wy ho hd hb hK kz;have q0:=hd ⟨0,.data⟩ (by simp) rfl;simp [rAt,IsV,slot] at q0;clear hd ho;obtain ⟨hst,hqq⟩:=HCP.out wy hb;have ko:wy.cell? ⟨O,1,none⟩=some sv:=hst.o.cell rfl;obtain ⟨s0,s1,s2,s3,s4,s5,s6⟩:=hqq.c7;go_simp;try go_bits
     exact kz _ rfl
    apply GChV.v2
    ·rfl
    ·intro K' a wy ho hd hb hK kz;have o9:=ho 9 (by decide);simp [slot] at o9;clear hd ho;obtain ⟨hst,hqq⟩:=HCP.out wy hb;have ko:wy.cell? ⟨O,1,none⟩=some sv:=hst.o.cell rfl;obtain ⟨s0,s1,s2,s3,s4,s5,s6⟩:=hqq.c7;go_simp;try go_bits
     exact kz _ rfl
    apply GChV.v3
    ·rfl
    ·intro K' a wy ho hd hb hK kz;have q2:=hd ⟨2,.data⟩ (by simp) rfl;simp [rAt,IsV,slot] at q2;clear hd ho;go_simp;refine (HCY.out wy).mono ?_;rintro e wz ⟨rfl,hz⟩;exact hK _ _ rfl hz
    refine GChV.rel (n:=4) (IsOneC (ssL q)) (stable_isOneC _ (by simp [ssL])) [_,_,_,_,IsOneC (ssL q)] rfl rfl ?_ ?_
    ·intro K' a wy ho hd hb hK;rw [if_pos (wanted_none rfl)];have q3:=hd ⟨3,.data⟩ (by simp) rfl;simp [rAt,IsV,slot] at q3;clear hd ho;go_simp;exact hK _ _ ⟨wy.heap.size,rfl,HoldsL.new wy (ssL q) _⟩ ((Below.refl _ _).alloc (Nat.le_refl _) _)
    intro X wz hR hz;obtain ⟨x0,x1,x2,x3,x4,-⟩:=hR;have hk7:=x4;clear hk7;simp only [IsV] at x0 x1 x2 x3;simp only [putsFrom,x0,x1,x2,x3,putsFrom];clear x0 x1 x2 x3;obtain ⟨g7,e7,r7⟩:=x4;have SZ:=(HCP.out wz hz).1;obtain ⟨v6,w6,hrun,⟨gg,l6,c6,rfl⟩,hO6,S6⟩:=SZ.appS q g7 r7 hfl;have HRUN:Hid _:=hrun;have HS6:Hid _:=S6;have p1:w6.cell? ⟨O,1,none⟩=some sv:=hO6.cell rfl;have p2:=hO6.free (j:=1) (by simp);clear hrun S6 hO6 SZ r7 hz HCP;simp only [e7];simp only [List.length_cons,List.length_nil,List.drop_succ_cons,List.drop_zero,Nat.zero_add,Nat.reduceAdd];intro K5 hK5;with_reducible refine wp_append_run (.tmp 34) (.tmp 37) _ rfl ?_ ?_ HRUN.out (hK5 _ _ ?_)
    ·simp [Act.eval,Act.put]
    ·simp [Act.eval,Act.put]
    intro K6 hK6;go_simp;refine hK6 _ _ ?_;intro K7 hK7;go_simp;refine hK7 _ _ ?_;simp only [wpSeq];go_wp2_with fail
    go_roundw
    case rel =>
     first | exact ⟨i+1,_,by omega,by go_num,by rw [HF2.out]; exact HS6.out⟩ | ((repeat apply Exists.intro); exact ⟨⟨i+1,_,by omega,by go_num,by rw [HF2.out]; exact HS6.out⟩,rfl⟩)
    case measure=>simp [intOf]<;>omega
   ·
    have HF2:Hid ((x.sess.take (i+1)).filter (lateS now)=zs):=by unfold Hid; rw [HFO.out,if_neg (by unfold lateS; simp; omega)]
    clear HFO;go_wp2_with fail
    go_roundw
    case rel=>exact ⟨i+1,sv,by omega,by go_num,by rw [HF2.out]; exact S2.out⟩
    case measure=>simp [intOf]; omega
  ·
   have hie:i=x.sess.length:=by omega
   rw [hie,List.take_length] at S1;have hge:¬ (i:Int) < (x.sess.length:Int):=by omega
   clear hie hlt;have HZL:Hid ((x.sess.filter (lateS now)).length≤1048576):=Nat.le_trans (List.length_filter_le _ _) hbl2;have HTW:Hid (ans=⟨x.binds.filter fun y=>(x.sess.filter (lateS now)).any fun s=>hasS y s,x.sess.filter (lateS now)⟩):=HTV.out;clear HTV;generalize x.sess.filter (lateS now)=zs at *;obtain ⟨sa,sc,hsv,hsc,hso⟩:=S1.out.shapes.2;subst hsv;clear hsc hso;have c0:w4.cell? ⟨w.heap.size+1,0,none⟩=some (.slice ba x.binds.length ca):=(S1.out.k _ (List.mem_cons_self ..)).cell rfl;go_wp2_with fail
   clear c0 hge;go_loopw [44] (fun iv wr=>∃ (i:Nat) (bv:Value),i≤x.binds.length∧iv=.int .i64 i∧RowsSt w base O [(w.heap.size+1,[.slice ba x.binds.length ca,.slice bo x.sess.length cb]),(w.heap.size+1+1,[.slice none 0 0,.slice none 0 0])] bv (.slice sa zs.length sc) ((x.binds.take i).filter fun y=>zs.any fun s=>hasS y s) (zs) wr) (fun iv _=>x.binds.length-(intOf iv).toNat)
   case atStart=>exact ⟨0,_,Nat.zero_le _,rfl,S1.out⟩
   case round =>
    obtain ⟨k,bv,hk,rfl,hS⟩:=hrel;have S5:Hid _:=hS;clear hS S1;generalize wr=v4 at *;by_cases hlt:k < x.binds.length
    ·
     obtain ⟨bb,off,rfl,hb,hat⟩:=HSX.out.bd.at hlt;have hA:=(hat.below hb S5.out.b) k hlt;have HFO:Hid _:=filter_one (fun y=>zs.any fun s=>hasS y s) x.binds k hlt;have hfl:=filter_most (fun y=>zs.any fun s=>hasS y s) x.binds k hbl1;have hgd:=HGB.out x.binds[k] (List.getElem_mem hlt);obtain ⟨y,hy⟩ : ∃ y,y=x.binds[k]:=⟨_,rfl⟩;rw [← hy] at hA HFO hgd;have HGD:Hid (BdGood y):=hgd;have hltI:(k:Int) < (x.binds.length:Int):=by omega
     have s0:v4.cell? ⟨bb,off+k*5,none⟩=some (.int .i64 y.proto):=hA 0 _ rfl;have s1:v4.cell? ⟨bb,off+k*5+1,none⟩=some (.string y.inn):=hA 1 _ rfl;have s2:v4.cell? ⟨bb,off+k*5+2,none⟩=some (.int .i64 y.inPort):=hA 2 _ rfl;have s3:v4.cell? ⟨bb,off+k*5+3,none⟩=some (.string y.out):=hA 3 _ rfl;have s4:v4.cell? ⟨bb,off+k*5+4,none⟩=some (.int .i64 y.outPort):=hA 4 _ rfl;generalize (x.binds.take k).filter (fun y=>zs.any fun s=>hasS y s)=ys at *;clear hA hat hy hgd hb;go_upto_region 13 with fail
     have bn:Below v4.heap.size v4 (v4.alloc (.cells #[.int .i64 y.proto,.string y.inn,.int .i64 y.inPort,.string y.out,.int .i64 y.outPort] 153)):=(Below.refl _ _).alloc (Nat.le_refl _) _;have HQ:Hid (HoldsL (v4.alloc (.cells #[.int .i64 y.proto,.string y.inn,.int .i64 y.inPort,.string y.out,.int .i64 y.outPort] 153)) v4.heap.size [.int .i64 y.proto,.string y.inn,.int .i64 y.inPort,.string y.out,.int .i64 y.outPort]):=HoldsL.new v4 [.int .i64 y.proto,.string y.inn,.int .i64 y.inPort,.string y.out,.int .i64 y.outPort] 153;have S6:Hid _:=S5.out.kept bn;generalize v4.alloc (.cells #[.int .i64 y.proto,.string y.inn,.int .i64 y.inPort,.string y.out,.int .i64 y.outPort] 153)=V5 at *;clear bn S5 s0 s1 s2 s3 s4;generalize v4.heap.size=Bq at *;obtain ⟨s0,s1,s2,s3,s4⟩:=HQ.out.c5;have ko:=S6.out.o.cell (j:=1) rfl;have HHS:Hid (∀ W,RowsSt w base O [(w.heap.size+1,[.slice (some ⟨bb,off,none⟩) x.binds.length ca,.slice bo x.sess.length cb]),(w.heap.size+1+1,[.slice none 0 0,.slice none 0 0])] bv (.slice sa zs.length sc) (ys) (zs) W→Calls Tryz.prog 107 #[.slice sa zs.length sc,.agg #[.int .i64 y.proto,.string y.inn,.int .i64 y.inPort,.string y.out,.int .i64 y.outPort]] W fun e w'=>e=.returned (.bool (zs.any (hasS y)))∧Below W.heap.size W w'):=fun W hW=>by
      obtain ⟨sa2,sc2,e1,_,h2⟩:=hW.shapes.2;obtain ⟨rfl,_,rfl⟩ : sa=sa2∧zs.length=zs.length∧sc=sc2:=by simpa using e1
      exact hasSess_any y zs sa sc W HZL.out h2.is
     obtain ⟨hy,hhy⟩ : ∃ b,b=zs.any (hasS y):=⟨_,rfl⟩;have HHY:Hid (hy=zs.any (hasS y)):=hhy;rw [← hhy] at HHS;clear hhy;go_wp2_with fail
     refine (HHS.out _ S6.out).mono ?_;rintro e v6 ⟨rfl,q6⟩;have S7:Hid _:=S6.out.kept q6;have HQ7:Hid _:=HQ.out.kept (by simp) q6;clear q6 S6 HQ HHS ko s0 s1 s2 s3 s4
     cases hy with
     | false =>
      have HF2:Hid ((x.binds.take (k+1)).filter (fun y=>zs.any fun s=>hasS y s)=ys):=by unfold Hid; rw [HFO.out,if_neg (by show ¬ (zs.any (hasS y))=true; rw [← HHY.out]; simp)]
      clear HFO HHY;go_wp2_with fail
      go_roundw
      case rel=>exact ⟨k+1,bv,by omega,by go_num,by rw [HF2.out]; exact S7.out⟩
      case measure=>simp [intOf]; omega
     | true =>
      have HF2:Hid ((x.binds.take (k+1)).filter (fun y=>zs.any fun s=>hasS y s)=ys++[y]):=by unfold Hid; rw [HFO.out,if_pos (by show (zs.any (hasS y))=true; rw [← HHY.out])]
      clear HFO HHY;go_upto_region 14 with fail
      have HCY:Hid (∀ W,Calls Tryz.prog 108 #[.agg #[.int .i64 y.proto,.string y.inn,.int .i64 y.inPort,.string y.out,.int .i64 y.outPort]] W fun e w'=>e=.returned (.agg #[.int .i64 y.proto,.string y.inn,.int .i64 y.inPort,.string y.out,.int .i64 y.outPort])∧Below W.heap.size W w'):=fun W=>copyBind_any y W HGD.out.1 HGD.out.2.1
      have HCP:Hid (∀ wy,Below v6.drew.heap.size v6.drew wy→RowsSt w base O [(w.heap.size+1,[.slice (some ⟨bb,off,none⟩) x.binds.length ca,.slice bo x.sess.length cb]),(w.heap.size+1+1,[.slice none 0 0,.slice none 0 0])] bv (.slice sa zs.length sc) (ys) (zs) wy∧HoldsL wy Bq [.int .i64 y.proto,.string y.inn,.int .i64 y.inPort,.string y.out,.int .i64 y.outPort]):=fun wy hy=>⟨S7.out.kept ((Below.refl _ _).drew.trans hy),HQ7.out.drew.kept (by simp) hy⟩
      clear hun;refine wp_region_growV [52,53,54,55,56] (by kernel_rfl) (by kernel_rfl) ?_;apply GChV.v0
      ·rfl
      ·intro K' a wy ho hd hb hK kz;have o7:=ho 7 (by decide);simp [slot] at o7;clear hd ho;go_simp;try go_bits
       exact kz _ rfl
      apply GChV.v1
      ·rfl
      ·intro K' a wy ho hd hb hK kz;have q0:=hd ⟨0,.data⟩ (by simp) rfl;simp [rAt,IsV,slot] at q0;clear hd ho;obtain ⟨hst,hqq⟩:=HCP.out wy hb;have ko:wy.cell? ⟨O,0,none⟩=some bv:=hst.o.cell rfl;obtain ⟨s0,s1,s2,s3,s4⟩:=hqq.c5;go_simp;try go_bits
       exact kz _ rfl
      apply GChV.v2
      ·rfl
      ·intro K' a wy ho hd hb hK kz;have o11:=ho 11 (by decide);simp [slot] at o11;clear hd ho;obtain ⟨hst,hqq⟩:=HCP.out wy hb;have ko:wy.cell? ⟨O,0,none⟩=some bv:=hst.o.cell rfl;obtain ⟨s0,s1,s2,s3,s4⟩:=hqq.c5;go_simp;try go_bits
       exact kz _ rfl
      apply GChV.v3
      ·rfl
      ·intro K' a wy ho hd hb hK kz;have q2:=hd ⟨2,.data⟩ (by simp) rfl;simp [rAt,IsV,slot] at q2;clear hd ho;go_simp;refine (HCY.out wy).mono ?_;rintro e wz ⟨rfl,hz⟩;exact hK _ _ rfl hz
      refine GChV.rel (n:=4) (IsOneC (bdL y)) (stable_isOneC _ (by simp [bdL])) [_,_,_,_,IsOneC (bdL y)] rfl rfl ?_ ?_
      ·intro K' a wy ho hd hb hK;rw [if_pos (wanted_none rfl)];have q3:=hd ⟨3,.data⟩ (by simp) rfl;simp [rAt,IsV,slot] at q3;clear hd ho;go_simp;exact hK _ _ ⟨wy.heap.size,rfl,HoldsL.new wy (bdL y) _⟩ ((Below.refl _ _).alloc (Nat.le_refl _) _)
      intro X wz hR hz;obtain ⟨x0,x1,x2,x3,x4,-⟩:=hR;have hk7:=x4;clear hk7;simp only [IsV] at x0 x1 x2 x3;simp only [putsFrom,x0,x1,x2,x3,putsFrom];clear x0 x1 x2 x3;obtain ⟨g7,e7,r7⟩:=x4;have SZ:=(HCP.out wz hz).1;obtain ⟨v6,w6,hrun,⟨gg,l6,c6,rfl⟩,hO6,S6⟩:=SZ.appB y g7 r7 hfl;have HRUN:Hid _:=hrun;have HS6:Hid _:=S6;have p1:w6.cell? ⟨O,0,none⟩=some bv:=hO6.cell rfl;have p2:=hO6.free (j:=0) (by simp);clear hrun S6 hO6 SZ r7 hz HCP;simp only [e7];simp only [List.length_cons,List.length_nil,List.drop_succ_cons,List.drop_zero,Nat.zero_add,Nat.reduceAdd];intro K5 hK5;with_reducible refine wp_append_run (.tmp 53) (.tmp 56) _ rfl ?_ ?_ HRUN.out (hK5 _ _ ?_)
      ·simp [Act.eval,Act.put]
      ·simp [Act.eval,Act.put]
      intro K6 hK6;go_simp;refine hK6 _ _ ?_;intro K7 hK7;go_simp;refine hK7 _ _ ?_;simp only [wpSeq];go_wp2_with fail
      go_roundw
      case rel =>
       first | exact ⟨k+1,_,by omega,by go_num,by rw [HF2.out]; exact HS6.out⟩ | ((repeat apply Exists.intro); exact ⟨⟨k+1,_,by omega,by go_num,by rw [HF2.out]; exact HS6.out⟩,rfl⟩)
      case measure=>simp [intOf]<;>omega
    ·
     have hie:k=x.binds.length:=by omega
     rw [hie,List.take_length] at S5;have hge:¬ (k:Int) < (x.binds.length:Int):=by omega
     clear hie hlt;generalize x.binds.filter (fun y=>zs.any fun s=>hasS y s)=ys at *;have R5:=(S5.out.at (List.mem_cons_of_mem _ (List.mem_cons_self ..)));have hbase:=S5.out.hi;have HR5:Hid (HoldsL ((v4.setCell ⟨w.heap.size+1+1,0,none⟩ bv).setCell ⟨w.heap.size+1+1,1,none⟩ (.slice sa zs.length sc)) (w.heap.size+1+1) [bv,(.slice sa zs.length sc)]):=(R5.set 0 bv).set 1 _;have RB:Hid (Below w.heap.size w ((v4.setCell ⟨w.heap.size+1+1,0,none⟩ bv).setCell ⟨w.heap.size+1+1,1,none⟩ (.slice sa zs.length sc))):=(S5.out.b.setCell (p:=⟨w.heap.size+1+1,0,none⟩) hRw bv).setCell (p:=⟨w.heap.size+1+1,1,none⟩) hRw _;have p0:v4.cell? ⟨O,0,none⟩=some bv:=S5.out.o.cell rfl;have p1:=S5.out.o.cell (j:=1) rfl;obtain ⟨z0,z1⟩:=R5.c2;obtain ⟨zf0,zf1⟩:=R5.f2;obtain ⟨ab,cb1,hbv,_,hbo⟩:=S5.out.shapes.1;obtain ⟨sb,cs1,hsv,_,hso⟩:=S5.out.shapes.2;have HNE:Hid (∀ g,bv.ownBlock=some g→Value.ownBlock (.slice sa zs.length sc)=some g→False):=S5.out.ne;obtain ⟨rfl,_,rfl⟩ : sa=sb∧zs.length=zs.length∧sc=cs1:=by simpa using hsv
     subst hbv;have HOW:Hid (BbOwn w.heap.size ((v4.setCell ⟨w.heap.size+1+1,0,none⟩ (.slice ab ys.length cb1)).setCell ⟨w.heap.size+1+1,1,none⟩ (.slice sa zs.length sc)) ab sa ⟨ys,zs⟩):=⟨(hbo.grown (grown_set (grown_set (World.grownBy.refl _ _) _) _) (by omega)).down (by have:=S5.out.lo; omega),(hso.grown (grown_set (grown_set (World.grownBy.refl _ _) _) _) (by omega)).down (by have:=S5.out.lo; omega),fun g h e1 e2 _ _ e3=>HNE.out g (by rw [e1]; rfl) (by rw [e2,← e3]; rfl)⟩;clear R5 hbo hso S5 hsv;go_wp2_with fail
     exact bodyPost_ret (results_mid Tryz.results73 _ _ (w.heap.size+1+1) [.slice ab ys.length cb1,.slice sa zs.length sc] _ rfl HR5.out Tryz.underlying36 rfl (show (Tryz.prog.info? 36).map (·.size)=some 2 by kernel_rfl)) rfl (And.intro (by rw [HTW.out]; exact ⟨ab,sa,cb1,sc,rfl,HOW.out⟩) RB.out)
theorem implCopy9_any (x:Bb) (ba bo:Option Addr) (ca cb:Nat) (w:World) (hbl1:x.binds.length≤1048576) (hbl2:x.sess.length≤1048576) (hgb:∀ q∈x.binds,BdGood q) (hgs:∀ s∈x.sess,SsGood s) (hx:BbIs w ba bo x) :
  Calls Tryz.prog 80 #[bbC ba bo ca cb x] w fun e w'=>CopyRet w.heap.size x e w'∧Below w.heap.size w w':=by
 have HSX:Hid (BbIs w ba bo x):=hx;have HGB:Hid (∀ q∈x.binds,BdGood q):=hgb;have HGS:Hid (∀ s∈x.sess,SsGood s):=hgs;have hRw:w.heap.size≤w.heap.size+1:=by omega
 clear hx hgb hgs;have e0:HoldsL ((w.alloc (.cells #[.slice ba x.binds.length ca,.slice bo x.sess.length cb] 36)).alloc (.cells #[.slice none 0 0,.slice none 0 0] 36)) (w.heap.size) [.slice ba x.binds.length ca,.slice bo x.sess.length cb]:=by
  have h:=HoldsL.new w [.slice ba x.binds.length ca,.slice bo x.sess.length cb] 36;try simp only [World.size_alloc] at h
  exact (h.alloc _)
 have e1:HoldsL ((w.alloc (.cells #[.slice ba x.binds.length ca,.slice bo x.sess.length cb] 36)).alloc (.cells #[.slice none 0 0,.slice none 0 0] 36)) (w.heap.size+1) [.slice none 0 0,.slice none 0 0]:=by
  have h:=HoldsL.new (w.alloc (.cells #[.slice ba x.binds.length ca,.slice bo x.sess.length cb] 36)) [.slice none 0 0,.slice none 0 0] 36;try simp only [World.size_alloc] at h
  exact h
 have HS0:Hid (Bxs w [(w.heap.size,[.slice ba x.binds.length ca,.slice bo x.sess.length cb]),(w.heap.size+1,[.slice none 0 0,.slice none 0 0])] ((w.alloc (.cells #[.slice ba x.binds.length ca,.slice bo x.sess.length cb] 36)).alloc (.cells #[.slice none 0 0,.slice none 0 0] 36))):=by
  refine ⟨fun e he=>?_,(((Below.refl _ _).alloc (by (try simp only [World.size_alloc]); omega) _).alloc (by (try simp only [World.size_alloc]); omega) _),fun e he=>?_⟩
  ·simp only [List.mem_cons,List.not_mem_nil,or_false] at he;rcases he with rfl | rfl
   ·exact e0
   ·exact e1
  ·simp only [List.mem_cons,List.not_mem_nil,or_false] at he;rcases he with rfl | rfl<;>simp
 clear e0 e1;have hun:undef=Value.tuple #[]:=rfl;unfold bbC;go_enter Tryz.func80,Tryz.ntmps80
 go_upto_region 1 with fail
 generalize ((w.alloc (.cells #[.slice ba x.binds.length ca,.slice bo x.sess.length cb] 36)).alloc (.cells #[.slice none 0 0,.slice none 0 0] 36))=W at *;have hlt1:w.heap.size+1 < W.heap.size:=(HS0.out.lts _ (.tail _ (.head _))).1;go_upto_region 2 with fail
 have HS1:Hid (RowsSt w (W.alloc (.cells #[.slice none 0 0,.slice none 0 0] 36)).heap.size W.heap.size [(w.heap.size,[.slice ba x.binds.length ca,.slice bo x.sess.length cb]),(w.heap.size+1,[.slice none 0 0,.slice none 0 0])] (.slice none 0 0) (.slice none 0 0) [] [] (W.alloc (.cells #[.slice none 0 0,.slice none 0 0] 36))):=by
  have bn:Below W.heap.size W (W.alloc (.cells #[.slice none 0 0,.slice none 0 0] 36)):=(Below.refl _ _).alloc (Nat.le_refl _) _;have hn:=HoldsL.new W [.slice none 0 0,.slice none 0 0] 36;refine RowsSt.start [(w.heap.size,[.slice ba x.binds.length ca,.slice bo x.sess.length cb]),(w.heap.size+1,[.slice none 0 0,.slice none 0 0])] hn (HS0.out.kept bn).b (HS0.out.kept bn).k (by omega) (fun e he=>?_);simp only [List.mem_cons,List.not_mem_nil,or_false] at he;rcases he with rfl | rfl
  ·refine ⟨by simp; omega,by show w.heap.size≠_; omega,by simp⟩
  ·refine ⟨by simp; omega,by show w.heap.size+1≠_; omega,by simp⟩
 clear HS0;generalize (W.alloc (.cells #[.slice none 0 0,.slice none 0 0] 36))=W3 at *;generalize W3.heap.size=base at *;have hO:w.heap.size+1 < W.heap.size:=hlt1;clear hlt1;generalize W.heap.size=O at *;have c0:W3.cell? ⟨w.heap.size,0,none⟩=some (.slice ba x.binds.length ca):=(show HoldsL W3 w.heap.size [.slice ba x.binds.length ca,.slice bo x.sess.length cb] from HS1.out.k _ (List.mem_cons_self ..)).cell rfl;go_wp2_with fail
 clear c0;go_loopw [11] (fun iv wr=>∃ (i:Nat) (v:Value),i≤x.binds.length∧iv=.int .i64 i∧RowsSt w base O [(w.heap.size,[.slice ba x.binds.length ca,.slice bo x.sess.length cb]),(w.heap.size+1,[.slice none 0 0,.slice none 0 0])] v (.slice none 0 0) (x.binds.take i) ([]) wr) (fun iv _=>x.binds.length-(intOf iv).toNat)
 case atStart=>exact ⟨0,_,Nat.zero_le _,rfl,HS1.out⟩
 case round =>
  obtain ⟨i,v,hi,rfl,hS⟩:=hrel;have S1:Hid _:=hS;clear hS HS1;generalize wr=w4 at *;by_cases hlt:i < x.binds.length
  case pos =>
   obtain ⟨bb,off,rfl,hb,hat⟩:=HSX.out.bd.at hlt;have hA:=(hat.below hb S1.out.b) i hlt;have HTK:Hid (x.binds.take (i+1)=x.binds.take i++[x.binds[i]]):=List.take_succ_eq_append_getElem hlt;have hfl:(x.binds.take i).length≤1048576:=by rw [List.length_take]; omega
   have hgd:=HGB.out x.binds[i] (List.getElem_mem hlt);obtain ⟨q,hq⟩ : ∃ q,q=x.binds[i]:=⟨_,rfl⟩;rw [← hq] at hA HTK hgd;have HGD:Hid (BdGood q):=hgd;have hltI:(i:Int) < (x.binds.length:Int):=by omega
   have s0:w4.cell? ⟨bb,off+i*5,none⟩=some (.int .i64 q.proto):=hA 0 _ rfl;have s1:w4.cell? ⟨bb,off+i*5+1,none⟩=some (.string q.inn):=hA 1 _ rfl;have s2:w4.cell? ⟨bb,off+i*5+2,none⟩=some (.int .i64 q.inPort):=hA 2 _ rfl;have s3:w4.cell? ⟨bb,off+i*5+3,none⟩=some (.string q.out):=hA 3 _ rfl;have s4:w4.cell? ⟨bb,off+i*5+4,none⟩=some (.int .i64 q.outPort):=hA 4 _ rfl;generalize x.binds.take i=zs at *;clear hA hat hq hgd hb;go_upto_region 5 with fail
   have bn:Below w4.heap.size w4 (w4.alloc (.cells #[.int .i64 q.proto,.string q.inn,.int .i64 q.inPort,.string q.out,.int .i64 q.outPort] 153)):=(Below.refl _ _).alloc (Nat.le_refl _) _;have HQ:Hid (HoldsL (w4.alloc (.cells #[.int .i64 q.proto,.string q.inn,.int .i64 q.inPort,.string q.out,.int .i64 q.outPort] 153)) w4.heap.size [.int .i64 q.proto,.string q.inn,.int .i64 q.inPort,.string q.out,.int .i64 q.outPort]):=HoldsL.new w4 [.int .i64 q.proto,.string q.inn,.int .i64 q.inPort,.string q.out,.int .i64 q.outPort] 153;have S2:Hid _:=S1.out.kept bn;generalize (w4.alloc (.cells #[.int .i64 q.proto,.string q.inn,.int .i64 q.inPort,.string q.out,.int .i64 q.outPort] 153))=W5 at *;clear bn S1 s0 s1 s2 s3 s4;generalize w4.heap.size=Bq at *;have HCY:Hid (∀ W,Calls Tryz.prog 108 #[.agg #[.int .i64 q.proto,.string q.inn,.int .i64 q.inPort,.string q.out,.int .i64 q.outPort]] W fun e w'=>e=.returned (.agg #[.int .i64 q.proto,.string q.inn,.int .i64 q.inPort,.string q.out,.int .i64 q.outPort])∧Below W.heap.size W w'):=fun W=>copyBind_any q W HGD.out.1 HGD.out.2.1
   have HCP:Hid (∀ wy,Below W5.drew.heap.size W5.drew wy→RowsSt w base O [(w.heap.size,[.slice (some ⟨bb,off,none⟩) x.binds.length ca,.slice bo x.sess.length cb]),(w.heap.size+1,[.slice none 0 0,.slice none 0 0])] v (.slice none 0 0) (zs) ([]) wy∧HoldsL wy Bq [.int .i64 q.proto,.string q.inn,.int .i64 q.inPort,.string q.out,.int .i64 q.outPort]):=fun wy hy=>⟨S2.out.kept ((Below.refl _ _).drew.trans hy),HQ.out.drew.kept (by simp) hy⟩
   clear hun;refine wp_region_growV [15,16,17,18,19] (by kernel_rfl) (by kernel_rfl) ?_;apply GChV.v0
   ·rfl
   ·intro K' a wy ho hd hb hK kz;have o3:=ho 3 (by decide);simp [slot] at o3;clear hd ho;go_simp;try go_bits
    exact kz _ rfl
   apply GChV.v1
   ·rfl
   ·intro K' a wy ho hd hb hK kz;have q0:=hd ⟨0,.data⟩ (by simp) rfl;simp [rAt,IsV,slot] at q0;clear hd ho;obtain ⟨hst,hqq⟩:=HCP.out wy hb;have ko:wy.cell? ⟨O,0,none⟩=some v:=hst.o.cell rfl;obtain ⟨s0,s1,s2,s3,s4⟩:=hqq.c5;go_simp;try go_bits
    exact kz _ rfl
   apply GChV.v2
   ·rfl
   ·intro K' a wy ho hd hb hK kz;have o5:=ho 5 (by decide);simp [slot] at o5;clear hd ho;obtain ⟨hst,hqq⟩:=HCP.out wy hb;have ko:wy.cell? ⟨O,0,none⟩=some v:=hst.o.cell rfl;obtain ⟨s0,s1,s2,s3,s4⟩:=hqq.c5;go_simp;try go_bits
    exact kz _ rfl
   apply GChV.v3
   ·rfl
   ·intro K' a wy ho hd hb hK kz;have q2:=hd ⟨2,.data⟩ (by simp) rfl;simp [rAt,IsV,slot] at q2;clear hd ho;go_simp;refine (HCY.out wy).mono ?_;rintro e wz ⟨rfl,hz⟩;exact hK _ _ rfl hz
   refine GChV.rel (n:=4) (IsOneC (bdL q)) (stable_isOneC _ (by simp [bdL])) [_,_,_,_,IsOneC (bdL q)] rfl rfl ?_ ?_
   ·intro K' a wy ho hd hb hK;rw [if_pos (wanted_none rfl)];have q3:=hd ⟨3,.data⟩ (by simp) rfl;simp [rAt,IsV,slot] at q3;clear hd ho;go_simp;exact hK _ _ ⟨wy.heap.size,rfl,HoldsL.new wy (bdL q) _⟩ ((Below.refl _ _).alloc (Nat.le_refl _) _)
   intro X wz hR hz;obtain ⟨x0,x1,x2,x3,x4,-⟩:=hR;have hk7:=x4;clear hk7;simp only [IsV] at x0 x1 x2 x3;simp only [putsFrom,x0,x1,x2,x3,putsFrom];clear x0 x1 x2 x3;obtain ⟨g7,e7,r7⟩:=x4;have SZ:=(HCP.out wz hz).1;obtain ⟨v6,w6,hrun,⟨gg,l6,c6,rfl⟩,hO6,S6⟩:=SZ.appB q g7 r7 hfl;have HRUN:Hid _:=hrun;have HS6:Hid _:=S6;have p1:w6.cell? ⟨O,0,none⟩=some v:=hO6.cell rfl;have p2:=hO6.free (j:=0) (by simp);clear hrun S6 hO6 SZ r7 hz HCP;simp only [e7];simp only [List.length_cons,List.length_nil,List.drop_succ_cons,List.drop_zero,Nat.zero_add,Nat.reduceAdd];intro K5 hK5;with_reducible refine wp_append_run (.tmp 16) (.tmp 19) _ rfl ?_ ?_ HRUN.out (hK5 _ _ ?_)
   ·simp [Act.eval,Act.put]
   ·simp [Act.eval,Act.put]
   intro K6 hK6;go_simp;refine hK6 _ _ ?_;intro K7 hK7;go_simp;refine hK7 _ _ ?_;simp only [wpSeq];go_wp2_with fail
   go_roundw
   case rel =>
    first | exact ⟨i+1,_,by omega,by go_num,by rw [HTK.out]; exact HS6.out⟩ | ((repeat apply Exists.intro); exact ⟨⟨i+1,_,by omega,by go_num,by rw [HTK.out]; exact HS6.out⟩,rfl⟩)
   case measure=>simp [intOf]<;>omega
  case neg =>
   have hie:i=x.binds.length:=by omega
   rw [hie,List.take_length] at S1;have hge:¬ (i:Int) < (x.binds.length:Int):=by omega
   clear hie hlt;obtain ⟨sa,sc,hsv,hsc,hso⟩:=S1.out.shapes.1;subst hsv;clear hsc hso;have c1:w4.cell? ⟨w.heap.size,1,none⟩=some (.slice bo x.sess.length cb):=(show HoldsL w4 w.heap.size [.slice ba x.binds.length ca,.slice bo x.sess.length cb] from S1.out.k _ (List.mem_cons_self ..)).cell rfl;go_wp2_with fail
   clear c1 hge;have S9:Hid _:=S1.out;clear S1;generalize w4=V4 at *;go_loopw [26] (fun iv wr=>∃ (i:Nat) (v:Value),i≤x.sess.length∧iv=.int .i64 i∧RowsSt w base O [(w.heap.size,[.slice ba x.binds.length ca,.slice bo x.sess.length cb]),(w.heap.size+1,[.slice none 0 0,.slice none 0 0])] (.slice sa x.binds.length sc) v (x.binds) (x.sess.take i) wr) (fun iv _=>x.sess.length-(intOf iv).toNat)
   case atStart=>exact ⟨0,_,Nat.zero_le _,rfl,S9.out⟩
   case round =>
    obtain ⟨i,v,hi,rfl,hS⟩:=hrel;have S1:Hid _:=hS;clear hS S9;generalize wr=w4 at *;by_cases hlt:i < x.sess.length
    case pos =>
     obtain ⟨bb,off,rfl,hb,hat⟩:=HSX.out.ss.at hlt;have hA:=(hat.below hb S1.out.b) i hlt;have HTK:Hid (x.sess.take (i+1)=x.sess.take i++[x.sess[i]]):=List.take_succ_eq_append_getElem hlt;have hfl:(x.sess.take i).length≤1048576:=by rw [List.length_take]; omega
     have hgd:=HGS.out x.sess[i] (List.getElem_mem hlt);obtain ⟨q,hq⟩ : ∃ q,q=x.sess[i]:=⟨_,rfl⟩;rw [← hq] at hA HTK hgd;have HGD:Hid (SsGood q):=hgd;have hltI:(i:Int) < (x.sess.length:Int):=by omega
     have s0:w4.cell? ⟨bb,off+i*7,none⟩=some (.int .i64 q.proto):=hA 0 _ rfl;have s1:w4.cell? ⟨bb,off+i*7+1,none⟩=some (.string q.inn):=hA 1 _ rfl;have s2:w4.cell? ⟨bb,off+i*7+2,none⟩=some (.int .i64 q.inPort):=hA 2 _ rfl;have s3:w4.cell? ⟨bb,off+i*7+3,none⟩=some (.string q.peer):=hA 3 _ rfl;have s4:w4.cell? ⟨bb,off+i*7+4,none⟩=some (.int .i64 q.peerPort):=hA 4 _ rfl;have s5:w4.cell? ⟨bb,off+i*7+5,none⟩=some (.int .i64 q.state):=hA 5 _ rfl;have s6:w4.cell? ⟨bb,off+i*7+6,none⟩=some (.int .i64 q.untl):=hA 6 _ rfl;generalize x.sess.take i=zs at *;clear hA hat hq hgd hb;go_upto_region 10 with fail
     have bn:Below w4.heap.size w4 (w4.alloc (.cells #[.int .i64 q.proto,.string q.inn,.int .i64 q.inPort,.string q.peer,.int .i64 q.peerPort,.int .i64 q.state,.int .i64 q.untl] 150)):=(Below.refl _ _).alloc (Nat.le_refl _) _;have HQ:Hid (HoldsL (w4.alloc (.cells #[.int .i64 q.proto,.string q.inn,.int .i64 q.inPort,.string q.peer,.int .i64 q.peerPort,.int .i64 q.state,.int .i64 q.untl] 150)) w4.heap.size [.int .i64 q.proto,.string q.inn,.int .i64 q.inPort,.string q.peer,.int .i64 q.peerPort,.int .i64 q.state,.int .i64 q.untl]):=HoldsL.new w4 [.int .i64 q.proto,.string q.inn,.int .i64 q.inPort,.string q.peer,.int .i64 q.peerPort,.int .i64 q.state,.int .i64 q.untl] 150;have S2:Hid _:=S1.out.kept bn;generalize (w4.alloc (.cells #[.int .i64 q.proto,.string q.inn,.int .i64 q.inPort,.string q.peer,.int .i64 q.peerPort,.int .i64 q.state,.int .i64 q.untl] 150))=W5 at *;clear bn S1 s0 s1 s2 s3 s4 s5 s6;generalize w4.heap.size=Bq at *;have HCY:Hid (∀ W,Calls Tryz.prog 106 #[.agg #[.int .i64 q.proto,.string q.inn,.int .i64 q.inPort,.string q.peer,.int .i64 q.peerPort,.int .i64 q.state,.int .i64 q.untl]] W fun e w'=>e=.returned (.agg #[.int .i64 q.proto,.string q.inn,.int .i64 q.inPort,.string q.peer,.int .i64 q.peerPort,.int .i64 q.state,.int .i64 q.untl])∧Below W.heap.size W w'):=fun W=>copySession_any q W HGD.out.1 HGD.out.2.1
     have HCP:Hid (∀ wy,Below W5.drew.heap.size W5.drew wy→RowsSt w base O [(w.heap.size,[.slice ba x.binds.length ca,.slice (some ⟨bb,off,none⟩) x.sess.length cb]),(w.heap.size+1,[.slice none 0 0,.slice none 0 0])] (.slice sa x.binds.length sc) v (x.binds) (zs) wy∧HoldsL wy Bq [.int .i64 q.proto,.string q.inn,.int .i64 q.inPort,.string q.peer,.int .i64 q.peerPort,.int .i64 q.state,.int .i64 q.untl]):=fun wy hy=>⟨S2.out.kept ((Below.refl _ _).drew.trans hy),HQ.out.drew.kept (by simp) hy⟩
     clear hun;refine wp_region_growV [30,31,32,33,34] (by kernel_rfl) (by kernel_rfl) ?_;apply GChV.v0
     ·rfl
     ·intro K' a wy ho hd hb hK kz;have o3:=ho 3 (by decide);simp [slot] at o3;clear hd ho;go_simp;try go_bits
      exact kz _ rfl
     apply GChV.v1
     ·rfl
     ·intro K' a wy ho hd hb hK kz;have q0:=hd ⟨0,.data⟩ (by simp) rfl;simp [rAt,IsV,slot] at q0;clear hd ho;obtain ⟨hst,hqq⟩:=HCP.out wy hb;have ko:wy.cell? ⟨O,1,none⟩=some v:=hst.o.cell rfl;obtain ⟨s0,s1,s2,s3,s4,s5,s6⟩:=hqq.c7;go_simp;try go_bits
      exact kz _ rfl
     apply GChV.v2
     ·rfl
     ·intro K' a wy ho hd hb hK kz;have o7:=ho 7 (by decide);simp [slot] at o7;clear hd ho;obtain ⟨hst,hqq⟩:=HCP.out wy hb;have ko:wy.cell? ⟨O,1,none⟩=some v:=hst.o.cell rfl;obtain ⟨s0,s1,s2,s3,s4,s5,s6⟩:=hqq.c7;go_simp;try go_bits
      exact kz _ rfl
     apply GChV.v3
     ·rfl
     ·intro K' a wy ho hd hb hK kz;have q2:=hd ⟨2,.data⟩ (by simp) rfl;simp [rAt,IsV,slot] at q2;clear hd ho;go_simp;refine (HCY.out wy).mono ?_;rintro e wz ⟨rfl,hz⟩;exact hK _ _ rfl hz
     refine GChV.rel (n:=4) (IsOneC (ssL q)) (stable_isOneC _ (by simp [ssL])) [_,_,_,_,IsOneC (ssL q)] rfl rfl ?_ ?_
     ·intro K' a wy ho hd hb hK;rw [if_pos (wanted_none rfl)];have q3:=hd ⟨3,.data⟩ (by simp) rfl;simp [rAt,IsV,slot] at q3;clear hd ho;go_simp;exact hK _ _ ⟨wy.heap.size,rfl,HoldsL.new wy (ssL q) _⟩ ((Below.refl _ _).alloc (Nat.le_refl _) _)
     intro X wz hR hz;obtain ⟨x0,x1,x2,x3,x4,-⟩:=hR;have hk7:=x4;clear hk7;simp only [IsV] at x0 x1 x2 x3;simp only [putsFrom,x0,x1,x2,x3,putsFrom];clear x0 x1 x2 x3;obtain ⟨g7,e7,r7⟩:=x4;have SZ:=(HCP.out wz hz).1;obtain ⟨v6,w6,hrun,⟨gg,l6,c6,rfl⟩,hO6,S6⟩:=SZ.appS q g7 r7 hfl;have HRUN:Hid _:=hrun;have HS6:Hid _:=S6;have p1:w6.cell? ⟨O,1,none⟩=some v:=hO6.cell rfl;have p2:=hO6.free (j:=1) (by simp);clear hrun S6 hO6 SZ r7 hz HCP;simp only [e7];simp only [List.length_cons,List.length_nil,List.drop_succ_cons,List.drop_zero,Nat.zero_add,Nat.reduceAdd];intro K5 hK5;with_reducible refine wp_append_run (.tmp 31) (.tmp 34) _ rfl ?_ ?_ HRUN.out (hK5 _ _ ?_)
     ·simp [Act.eval,Act.put]
     ·simp [Act.eval,Act.put]
     intro K6 hK6;go_simp;refine hK6 _ _ ?_;intro K7 hK7;go_simp;refine hK7 _ _ ?_;simp only [wpSeq];go_wp2_with fail
     go_roundw
     case rel =>
      first | exact ⟨i+1,_,by omega,by go_num,by rw [HTK.out]; exact HS6.out⟩ | ((repeat apply Exists.intro); exact ⟨⟨i+1,_,by omega,by go_num,by rw [HTK.out]; exact HS6.out⟩,rfl⟩)
     case measure=>simp [intOf]<;>omega
    case neg =>
     have hie:i=x.sess.length:=by omega
     rw [hie,List.take_length] at S1;have hge:¬ (i:Int) < (x.sess.length:Int):=by omega
     clear hie hlt;obtain ⟨sb,cs1,hsv,_,_⟩:=S1.out.shapes.2;subst hsv;have HHz:=S1.out.at (.tail _ (.head _));obtain ⟨z0,z1⟩:=HHz.c2;obtain ⟨zf0,zf1⟩:=HHz.f2;have HRR:Hid (HoldsL ((w4.setCell ⟨w.heap.size+1,0,none⟩ (.slice sa x.binds.length sc)).setCell ⟨w.heap.size+1,1,none⟩ (.slice sb x.sess.length cs1)) (w.heap.size+1) [.slice sa x.binds.length sc,.slice sb x.sess.length cs1]):=(HHz.set 0 (.slice sa x.binds.length sc)).set 1 (.slice sb x.sess.length cs1);have RB:Hid (Below w.heap.size w ((w4.setCell ⟨w.heap.size+1,0,none⟩ (.slice sa x.binds.length sc)).setCell ⟨w.heap.size+1,1,none⟩ (.slice sb x.sess.length cs1))):=(S1.out.b.setCell (p:=⟨w.heap.size+1,0,none⟩) hRw _).setCell (p:=⟨w.heap.size+1,1,none⟩) hRw _;have hkb:w.heap.size+1 < base:=(S1.out.kb _ (.tail _ (.head _))).1;have hwb:w.heap.size≤base:=by omega
     have O1:Hid (World.ownsRow ((w4.setCell ⟨w.heap.size+1,0,none⟩ (.slice sa x.binds.length sc)).setCell ⟨w.heap.size+1,1,none⟩ (.slice sb x.sess.length cs1)) w.heap.size 153 5 (.slice sa x.binds.length sc) x.binds.length (flatS bdL x.binds)):=rowDown (ownC_cell (ownC_cell S1.out.bo (ownC_ne S1.out.bo hkb)) (ownC_ne S1.out.bo hkb)) hwb;have O2:Hid (World.ownsRow ((w4.setCell ⟨w.heap.size+1,0,none⟩ (.slice sa x.binds.length sc)).setCell ⟨w.heap.size+1,1,none⟩ (.slice sb x.sess.length cs1)) w.heap.size 150 7 (.slice sb x.sess.length cs1) x.sess.length (flatS ssL x.sess)):=rowDown (ownC_cell (ownC_cell S1.out.so (ownC_ne S1.out.so hkb)) (ownC_ne S1.out.so hkb)) hwb;obtain ⟨p0,p1⟩:=S1.out.o.c2;clear HHz S1;go_wp2_with fail
     exact bodyPost_ret (results_mid Tryz.results80 _ _ (w.heap.size+1) [.slice sa x.binds.length sc,.slice sb x.sess.length cs1] _ rfl HRR.out Tryz.underlying36 rfl (show (Tryz.prog.info? 36).map (·.size)=some 2 by kernel_rfl)) rfl (And.intro ⟨_,_,rfl,O1.out,O2.out⟩ RB.out)
end Go.Proofs.YthagnjokdnnmpaaGreat
