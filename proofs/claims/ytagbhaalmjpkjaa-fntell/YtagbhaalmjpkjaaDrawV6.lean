import Derived.Test.YtagbhaalmjpkjaaDrawV
set_option linter.unusedVariables false
set_option linter.unusedSimpArgs false
set_option maxRecDepth 100000
set_option maxHeartbeats 8000000
namespace Go.Proofs.Ytagbhaalmjpkjaa
open Go.RowKit Go.PlainAid
theorem drawV6_any (B:Nat) (a:Option Addr) (len cap:Nat) (size:Int) (w:World) (hl:len≤1048576) (hs:Src w B a len cap size) :
  Calls Try.prog 51 #[.pointer (some ⟨B,0,none⟩)] w fun e w'=>(∃ p:P6,e=.returned (p6C p)∧Bd6 p)∧Src w' B a len cap size∧w.grownBy w' (some B):=by
 have hB:B < w.heap.size:=(Dr.start hs).hB;have hOB:w.heap.size≠B:=by omega
 have D0:Hid (Dr w B a len cap size (w.alloc (.cells #[.int .i64 0,.int .i64 0,.int .i64 0,.int .i64 0,.string ⟨#[]⟩,.string ⟨#[]⟩,.bool false,.bool false,.int .i64 0,.int .i64 0,.string ⟨#[]⟩] 43))):=(Dr.start hs).alloc _;have K0:Hid (BoxW6 (w.alloc (.cells #[.int .i64 0,.int .i64 0,.int .i64 0,.int .i64 0,.string ⟨#[]⟩,.string ⟨#[]⟩,.bool false,.bool false,.int .i64 0,.int .i64 0,.string ⟨#[]⟩] 43)) w.heap.size p6Zero):=BoxW6.new w;clear hs;go_enter Try.func51,Try.ntmps51
 go_wp2_with fail
 refine (drawN_any 256 B a len cap size _ (by omega) hl D0.out.src).mono ?_;rintro e U1 ⟨r1,rfl,r10,r11,hs1,hg1⟩;have D1:Hid (Dr w B a len cap size U1):=D0.out.draw hs1 hg1;have K1:Hid (BoxW6 U1 w.heap.size p6Zero):=K0.out.drawn hg1 hOB;clear hs1 hg1 D0 K0;have r12:r1≤255:=by omega
 clear r11;go_wp2_with fail
 refine (drawN_any 1048576 B a len cap size _ (by omega) hl D1.out.src).mono ?_;rintro e U2 ⟨r2,rfl,r20,r21,hs1,hg1⟩;have D2:Hid (Dr w B a len cap size U2):=D1.out.draw hs1 hg1;have K2:Hid (BoxW6 U2 w.heap.size p6Zero):=K1.out.drawn hg1 hOB;clear hs1 hg1 D1 K1;have r22:r2≤1048575:=by omega
 clear r21;go_wp2_with fail
 refine (drawN_any 64 B a len cap size _ (by omega) hl D2.out.src).mono ?_;rintro e U3 ⟨r3,rfl,r30,r31,hs1,hg1⟩;have D3:Hid (Dr w B a len cap size U3):=D2.out.draw hs1 hg1;have K3:Hid (BoxW6 U3 w.heap.size p6Zero):=K2.out.drawn hg1 hOB;clear hs1 hg1 D2 K2;have r32:r3≤63:=by omega
 clear r31;go_wp2_with fail
 refine (drawAddr_any true B a len cap size _ hl D3.out.src).mono ?_;rintro e U4 ⟨s1,rfl,s1z,hs1,hg1⟩;have D4:Hid (Dr w B a len cap size U4):=D3.out.draw hs1 hg1;have K4:Hid (BoxW6 U4 w.heap.size p6Zero):=K3.out.drawn hg1 hOB;clear hs1 hg1 D3 K3;simp only [Bool.false_eq_true,if_false,if_true] at s1z;go_wp2_with fail
 refine (drawAddr_any true B a len cap size _ hl D4.out.src).mono ?_;rintro e U5 ⟨s2,rfl,s2z,hs1,hg1⟩;have D5:Hid (Dr w B a len cap size U5):=D4.out.draw hs1 hg1;have K5:Hid (BoxW6 U5 w.heap.size p6Zero):=K4.out.drawn hg1 hOB;clear hs1 hg1 D4 K4;simp only [Bool.false_eq_true,if_false,if_true] at s2z;have q7:Below U5.heap.size U5 (U5.alloc (.cells #[.int .i64 r1,.int .i64 r2,.int .i64 0,.int .i64 (1+r3),.string s1,.string s2,.bool false,.bool false,.int .i64 0,.int .i64 0,.string ⟨#[]⟩] 43)):=(Below.refl _ _).alloc (Nat.le_refl _) _;have hUL:w.heap.size < U5.heap.size:=World.block_lt_of_cell? U5 _ K5.out.c0;have S0:Hid (DS6 w B a len cap size w.heap.size U5.heap.size (U5.alloc (.cells #[.int .i64 r1,.int .i64 r2,.int .i64 0,.int .i64 (1+r3),.string s1,.string s2,.bool false,.bool false,.int .i64 0,.int .i64 0,.string ⟨#[]⟩] 43)) ⟨r1,r2,0,1+r3,s1,s2,false,false,0,0,⟨#[]⟩⟩):=⟨D5.out.below q7,K5.out.kept q7,BoxW6.made U5 ⟨r1,r2,0,1+r3,s1,s2,false,false,0,0,⟨#[]⟩⟩,Nat.le_refl _,by omega,by omega,by unfold Bd6 In64t; dsimp only; have hz0:(ByteArray.mk #[]).size=0:=rfl; omega⟩;clear q7 D5 K5;go_upto_region 2 with fail
 generalize U5.alloc (.cells #[.int .i64 r1,.int .i64 r2,.int .i64 0,.int .i64 (1+r3),.string s1,.string s2,.bool false,.bool false,.int .i64 0,.int .i64 0,.string ⟨#[]⟩] 43)=W7 at *;generalize U5.heap.size=Pb at *;have c4:=S0.out.box.c4;have c5:=S0.out.box.c5;go_wp2_with fail
 refine (drawFlow_any s1 s2 B a len cap size _ (by omega) (by omega) hl S0.out.dr.src).mono ?_;rintro e W8 ⟨⟨fp,fx,fy,rfl,hfp,hfx,hfy⟩,hs1,hg1⟩;have S8:Hid (DS6 w B a len cap size w.heap.size Pb W8 _):=S0.out.draw hs1 hg1;have q8:Below W8.heap.size W8 (W8.alloc (.cells #[.int .i64 fp,.string s1,.string s2,.int .i64 fx,.int .i64 fy] 88)):=(Below.refl _ _).alloc (Nat.le_refl _) _;have S9:Hid (DS6 w B a len cap size w.heap.size Pb (W8.alloc (.cells #[.int .i64 fp,.string s1,.string s2,.int .i64 fx,.int .i64 fy] 88)) _):=S8.out.below q8;have FB:Hid (BoxF (W8.alloc (.cells #[.int .i64 fp,.string s1,.string s2,.int .i64 fx,.int .i64 fy] 88)) W8.heap.size fp s1 s2 fx fy):=BoxF.new W8;have hPf:Pb < W8.heap.size:=World.block_lt_of_cell? W8 _ S8.out.box.c0;clear hs1 hg1 q8 S8 S0 c4 c5;unfold flC;go_upto_region 3 with fail
 generalize W8.alloc (.cells #[.int .i64 fp,.string s1,.string s2,.int .i64 fx,.int .i64 fy] 88)=W9 at *;generalize W8.heap.size=Fb at *;have hPF:Pb≠Fb:=by omega
 have fc0:=FB.out.c0;have FB2:Hid _:=FB.out.other (o:=2) (.int .i64 fp) hPF;have c2:=S9.out.box.c2;have f2:=S9.out.box.f2;have S35:Hid _:=S9.out.set2 (fp) (by have hbd:=S9.out.bd; unfold Bd6 In64t at *; dsimp only at *; omega);go_upto_region 4 with fail
 clear c2 f2 S9;generalize W9.setCell ⟨Pb,2,none⟩ (.int .i64 fp)=W10 at *;clear fc0 FB;obtain ⟨fc0,ff0,fc1,ff1,fc2,ff2,fc3,ff3,fc4,ff4⟩:=FB2.out;go_wp2_with fail
 refine (drawData_any fp s1 s2 fx fy B a len cap size _ hfp (by omega) (by omega) hfx hfy hl S35.out.dr.src).mono ?_;rintro e V36 ⟨⟨dt,rfl,dtz⟩,hs1,hg1⟩;have S36:Hid (DS6 w B a len cap size w.heap.size Pb V36 _):=S35.out.draw hs1 hg1;clear hs1 hg1 S35 FB2 fc0 ff0 fc1 ff1 fc2 ff2 fc3 ff3 fc4 ff4;have c10:=S36.out.box.c10;have f10:=S36.out.box.f10;have S37:Hid _:=S36.out.set10 (dt) (by have hbd:=S36.out.bd; unfold Bd6 In64t at *; dsimp only at *; omega);go_upto_region 5 with fail
 clear c10 f10 S36;generalize V36.setCell ⟨Pb,10,none⟩ (.string dt)=W11 at *;go_wp2_with fail
 refine (drawOne_any 6 B a len cap size _ (by omega) hl S37.out.dr.src).mono ?_;rintro e V38 ⟨b6,rfl,hs1,hg1⟩;have S38:Hid (DS6 w B a len cap size w.heap.size Pb V38 _):=S37.out.draw hs1 hg1;clear hs1 hg1 S37;obtain ⟨pk,SP39⟩ : ∃ pk,Hid (DS6 w B a len cap size w.heap.size Pb _ pk):=⟨_,S38⟩;clear S38;go_upto_if 31 with fail
 go_cut [3] (fun v wx=>v=.pointer (some ⟨Pb,0,none⟩)∧∃ pq,DS6 w B a len cap size w.heap.size Pb wx pq)
 case first =>
  cases b6 with
  | false =>
   go_wp2_with fail
   go_meet;exact ⟨rfl,_,SP39.out⟩
  | true =>
  have c6:=SP39.out.box.c6;have f6:=SP39.out.box.f6;have S40:Hid _:=SP39.out.set6 (true) (by have hbd:=SP39.out.bd; unfold Bd6 In64t at *; dsimp only at *; omega);go_wp2_with fail
  clear c6 f6 SP39;refine (drawN_any 3 B a len cap size _ (by omega) hl S40.out.dr.src).mono ?_;rintro e V41 ⟨ra,rfl,ra0,ra1,hs1,hg1⟩;have S41:Hid (DS6 w B a len cap size w.heap.size Pb V41 _):=S40.out.draw hs1 hg1;clear hs1 hg1 S40;have ra2:ra≤2:=by omega
  clear ra1;have c8:=S41.out.box.c8;have f8:=S41.out.box.f8;have S42:Hid _:=S41.out.set8 (ra*100) (by have hbd:=S41.out.bd; unfold Bd6 In64t at *; dsimp only at *; omega);go_wp2_with fail
  clear c8 f8 S41;refine (drawOne_any 2 B a len cap size _ (by omega) hl S42.out.dr.src).mono ?_;rintro e V43 ⟨bb,rfl,hs1,hg1⟩;have S43:Hid (DS6 w B a len cap size w.heap.size Pb V43 _):=S42.out.draw hs1 hg1;clear hs1 hg1 S42;have c7:=S43.out.box.c7;have f7:=S43.out.box.f7;have S44:Hid _:=S43.out.set7 (bb) (by have hbd:=S43.out.bd; unfold Bd6 In64t at *; dsimp only at *; omega);go_wp2_with fail
  clear c7 f7 S43;refine (drawN_any 1048576 B a len cap size _ (by omega) hl S44.out.dr.src).mono ?_;rintro e V45 ⟨rid,rfl,rid0,rid1,hs1,hg1⟩;have S45:Hid (DS6 w B a len cap size w.heap.size Pb V45 _):=S44.out.draw hs1 hg1;clear hs1 hg1 S44;have rid2:rid≤1048575:=by omega
  clear rid1;have c9:=S45.out.box.c9;have f9:=S45.out.box.f9;have S46:Hid _:=S45.out.set9 (rid) (by have hbd:=S45.out.bd; unfold Bd6 In64t at *; dsimp only at *; omega);go_wp2_with fail
  clear c9 f9 S45;refine (drawN_any 4 B a len cap size _ (by omega) hl S46.out.dr.src).mono ?_;rintro e V47 ⟨rb,rfl,rb0,rb1,hs1,hg1⟩;have S47:Hid (DS6 w B a len cap size w.heap.size Pb V47 _):=S46.out.draw hs1 hg1;clear hs1 hg1 S46;have rb2:rb≤3:=by omega
  clear rb1;obtain ⟨kb,rfl⟩:=Int.eq_ofNat_of_zero_le rb0;go_wp2_with fail
  refine (drawBytesI (8*kb) _ (by omega) B a len cap size _ (by omega) hl S47.out.dr.src).mono ?_;rintro e V48 ⟨db,rfl,dbz,hs1,hg1⟩;have S48:Hid (DS6 w B a len cap size w.heap.size Pb V48 _):=S47.out.draw hs1 hg1;clear hs1 hg1 S47;have c10:=S48.out.box.c10;have f10:=S48.out.box.f10;have S49:Hid _:=S48.out.set10 (db) (by have hbd:=S48.out.bd; unfold Bd6 In64t at *; dsimp only at *; omega);go_wp2_with fail
  clear c10 f10 S48;go_meet;exact ⟨rfl,_,S49.out⟩
 case rest =>
 obtain ⟨rfl,pk,hSP⟩:=hcut;have SP50:Hid _:=hSP;clear hSP SP39;go_wp2_with fail
 refine (drawOne_any 25 B a len cap size _ (by omega) hl SP50.out.dr.src).mono ?_;rintro e V51 ⟨b25,rfl,hs1,hg1⟩;have S51:Hid (DS6 w B a len cap size w.heap.size Pb V51 _):=SP50.out.draw hs1 hg1;clear hs1 hg1 SP50;go_upto_if 50 with fail
 go_cut [3] (fun v wx=>v=.pointer (some ⟨Pb,0,none⟩)∧∃ pq,DS6 w B a len cap size w.heap.size Pb wx pq)
 case first =>
  cases b25 with
  | false =>
   go_wp2_with fail
   go_meet;exact ⟨rfl,_,S51.out⟩
  | true =>
  go_wp2_with fail
  refine (drawN_any 5 B a len cap size _ (by omega) hl S51.out.dr.src).mono ?_;rintro e V52 ⟨rs,rfl,rs0,rs1,hs1,hg1⟩;have S52:Hid (DS6 w B a len cap size w.heap.size Pb V52 _):=S51.out.draw hs1 hg1;clear hs1 hg1 S51;have rs2:rs≤4:=by omega
  clear rs1;have hrs:rs=0∨rs=1∨rs=2∨rs=3∨rs=4:=by omega
  rcases hrs with rfl | rfl | rfl | rfl | rfl
  ·go_wp2_with fail
   refine (drawN_more 3 B a len cap size _ (by omega) (by omega) hl (S52.out.dr.alloc _).src).mono ?_;rintro e V53 ⟨r,rfl,q0,q1,hs1,hg1⟩;obtain ⟨kk,rfl⟩:=Int.eq_ofNat_of_zero_le q0;obtain ⟨v,hcell,xv,rfl,hxv⟩:=pick_cell (k:=kk) (p:=fun v=>∃ x,v=.int .i64 x∧(-1≤x∧x≤4294967296)) (cs:=[.int .i64 (-1),.int .i64 8191,.int .i64 8192]) hg1 (by have:=S52.out.dr.le; omega) (by simp; omega) (by simp);have S53:Hid (DS6 w B a len cap size w.heap.size Pb V53 _):=(S52.out.below ((Below.refl _ _).alloc (Nat.le_refl _) _)).draw hs1 hg1;have q1':(kk:Int) < 3:=by omega
   clear hs1 hg1 q0 q1 S52;have c8:=S53.out.box.c8;have f8:=S53.out.box.f8;have S54:Hid _:=S53.out.set8 (xv) (by have hbd:=S53.out.bd; unfold Bd6 In64t at *; dsimp only at *; omega);go_wp2_with fail
   clear c8 f8 S53;go_meet;exact ⟨rfl,_,S54.out⟩
  ·go_wp2_with fail
   refine (drawN_more 3 B a len cap size _ (by omega) (by omega) hl (S52.out.dr.alloc _).src).mono ?_;rintro e V55 ⟨r,rfl,q0,q1,hs1,hg1⟩;obtain ⟨kk,rfl⟩:=Int.eq_ofNat_of_zero_le q0;obtain ⟨v,hcell,xv,rfl,hxv⟩:=pick_cell (k:=kk) (p:=fun v=>∃ x,v=.int .i64 x∧(-1≤x∧x≤4294967296)) (cs:=[.int .i64 (-1),.int .i64 1048575,.int .i64 1048576]) hg1 (by have:=S52.out.dr.le; omega) (by simp; omega) (by simp);have S55:Hid (DS6 w B a len cap size w.heap.size Pb V55 _):=(S52.out.below ((Below.refl _ _).alloc (Nat.le_refl _) _)).draw hs1 hg1;have q1':(kk:Int) < 3:=by omega
   clear hs1 hg1 q0 q1 S52;have c1:=S55.out.box.c1;have f1:=S55.out.box.f1;have S56:Hid _:=S55.out.set1 (xv) (by have hbd:=S55.out.bd; unfold Bd6 In64t at *; dsimp only at *; omega);go_wp2_with fail
   clear c1 f1 S55;go_meet;exact ⟨rfl,_,S56.out⟩
  ·go_wp2_with fail
   refine (drawN_more 3 B a len cap size _ (by omega) (by omega) hl (S52.out.dr.alloc _).src).mono ?_;rintro e V57 ⟨r,rfl,q0,q1,hs1,hg1⟩;obtain ⟨kk,rfl⟩:=Int.eq_ofNat_of_zero_le q0;obtain ⟨v,hcell,xv,rfl,hxv⟩:=pick_cell (k:=kk) (p:=fun v=>∃ x,v=.int .i64 x∧(-1≤x∧x≤4294967296)) (cs:=[.int .i64 44,.int .i64 256,.int .i64 59]) hg1 (by have:=S52.out.dr.le; omega) (by simp; omega) (by simp);have S57:Hid (DS6 w B a len cap size w.heap.size Pb V57 _):=(S52.out.below ((Below.refl _ _).alloc (Nat.le_refl _) _)).draw hs1 hg1;have q1':(kk:Int) < 3:=by omega
   clear hs1 hg1 q0 q1 S52;have c2:=S57.out.box.c2;have f2:=S57.out.box.f2;have S58:Hid _:=S57.out.set2 (xv) (by have hbd:=S57.out.bd; unfold Bd6 In64t at *; dsimp only at *; omega);go_wp2_with fail
   clear c2 f2 S57;go_meet;exact ⟨rfl,_,S58.out⟩
  ·go_wp2_with fail
   refine (drawN_more 4 B a len cap size _ (by omega) (by omega) hl (S52.out.dr.alloc _).src).mono ?_;rintro e V59 ⟨r,rfl,q0,q1,hs1,hg1⟩;obtain ⟨kk,rfl⟩:=Int.eq_ofNat_of_zero_le q0;obtain ⟨v,hcell,xv,rfl,hxv⟩:=pick_cell (k:=kk) (p:=fun v=>∃ x,v=.int .i64 x∧(-1≤x∧x≤4294967296)) (cs:=[.int .i64 (-1),.int .i64 4294967295,.int .i64 4294967296,.int .i64 1]) hg1 (by have:=S52.out.dr.le; omega) (by simp; omega) (by simp);have S59:Hid (DS6 w B a len cap size w.heap.size Pb V59 _):=(S52.out.below ((Below.refl _ _).alloc (Nat.le_refl _) _)).draw hs1 hg1;have q1':(kk:Int) < 4:=by omega
   clear hs1 hg1 q0 q1 S52;have c9:=S59.out.box.c9;have f9:=S59.out.box.f9;have S60:Hid _:=S59.out.set9 (xv) (by have hbd:=S59.out.bd; unfold Bd6 In64t at *; dsimp only at *; omega);go_wp2_with fail
   clear c9 f9 S59;go_meet;exact ⟨rfl,_,S60.out⟩
  ·go_wp2_with fail
   refine (drawAny_any B a len cap size _ hl S52.out.dr.src).mono ?_;rintro e V61 ⟨ua,rfl,uaz,hs1,hg1⟩;have S61:Hid (DS6 w B a len cap size w.heap.size Pb V61 _):=S52.out.draw hs1 hg1;clear hs1 hg1 S52;have c5:=S61.out.box.c5;have f5:=S61.out.box.f5;have S62:Hid _:=S61.out.set5 (ua) (by have hbd:=S61.out.bd; unfold Bd6 In64t at *; dsimp only at *; omega);go_wp2_with fail
   clear c5 f5 S61;go_meet;exact ⟨rfl,_,S62.out⟩
 case rest =>
 obtain ⟨rfl,pk,hSP⟩:=hcut;have SP63:Hid _:=hSP;clear hSP S51;obtain ⟨cls,flow,next,hops,src,dst,piece,more,off,id,data⟩:=pk;obtain ⟨c0,f0,c1,f1,c2,f2,c3,f3,c4,f4,c5,f5,c6,f6,c7,f7,c8,f8,c9,f9,c10,f10⟩:=SP63.out.box;obtain ⟨o0,y0,o1,y1,o2,y2,o3,y3,o4,y4,o5,y5,o6,y6,o7,y7,o8,y8,o9,y9,o10,y10⟩:=SP63.out.out;dsimp only [p6Zero] at c0 o0 c1 o1 c2 o2 c3 o3 c4 o4 c5 o5 c6 o6 c7 o7 c8 o8 c9 o9 c10 o10;go_wp2_with fail
 exact bodyPost_ret (v:=.agg #[.int .i64 cls,.int .i64 flow,.int .i64 next,.int .i64 hops,.string src,.string dst,.bool piece,.bool more,.int .i64 off,.int .i64 id,.string data]) (by simp [results,Try.results51,go_sem,o0,o1,o2,o3,o4,o5,o6,o7,o8,o9,o10]) rfl (by
  have D2:=(((((((((((SP63.out.dr.set w.heap.size 0 (.int .i64 cls) (Nat.le_refl _)).set w.heap.size 1 (.int .i64 flow) (Nat.le_refl _)).set w.heap.size 2 (.int .i64 next) (Nat.le_refl _)).set w.heap.size 3 (.int .i64 hops) (Nat.le_refl _)).set w.heap.size 4 (.string src) (Nat.le_refl _)).set w.heap.size 5 (.string dst) (Nat.le_refl _)).set w.heap.size 6 (.bool piece) (Nat.le_refl _)).set w.heap.size 7 (.bool more) (Nat.le_refl _)).set w.heap.size 8 (.int .i64 off) (Nat.le_refl _)).set w.heap.size 9 (.int .i64 id) (Nat.le_refl _)).set w.heap.size 10 (.string data) (Nat.le_refl _));exact ⟨⟨⟨cls,flow,next,hops,src,dst,piece,more,off,id,data⟩,rfl,SP63.out.bd⟩,D2.src,D2.grown⟩)
end Go.Proofs.Ytagbhaalmjpkjaa
