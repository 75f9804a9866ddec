import Derived.Test.YtagbhaalmjpkjaaDrawV
set_option linter.unusedVariables false
set_option linter.unusedSimpArgs false
set_option maxRecDepth 100000
set_option maxHeartbeats 8000000
namespace Go.Proofs.Ytagbhaalmjpkjaa
open Go.RowKit Go.PlainAid
theorem drawV4_any (B:Nat) (a:Option Addr) (len cap:Nat) (size:Int) (w:World) (hl:len≤1048576) (hs:Src w B a len cap size) :
  Calls Try.prog 31 #[.pointer (some ⟨B,0,none⟩)] w fun e w'=>(∃ p:P4,e=.returned (p4C p)∧Bd4 p)∧Src w' B a len cap size∧w.grownBy w' (some B):=by
 have hB:B < w.heap.size:=(Dr.start hs).hB;have hOB:w.heap.size≠B:=by omega
 have D0:Hid (Dr w B a len cap size (w.alloc (.cells #[.int .i64 0,.int .i64 0,.bool false,.bool false,.int .i64 0,.int .i64 0,.int .i64 0,.string ⟨#[]⟩,.string ⟨#[]⟩,.string ⟨#[]⟩,.string ⟨#[]⟩] 34))):=(Dr.start hs).alloc _;have K0:Hid (BoxW4 (w.alloc (.cells #[.int .i64 0,.int .i64 0,.bool false,.bool false,.int .i64 0,.int .i64 0,.int .i64 0,.string ⟨#[]⟩,.string ⟨#[]⟩,.string ⟨#[]⟩,.string ⟨#[]⟩] 34)) w.heap.size p4Zero):=BoxW4.new w;clear hs;go_enter Try.func31,Try.ntmps31
 go_wp2_with fail
 refine (drawN_any 256 B a len cap size _ (by omega) hl D0.out.src).mono ?_;rintro e U1 ⟨r1,rfl,r10,r11,hs1,hg1⟩;have D1:Hid (Dr w B a len cap size U1):=D0.out.draw hs1 hg1;have K1:Hid (BoxW4 U1 w.heap.size p4Zero):=K0.out.drawn hg1 hOB;clear hs1 hg1 D0 K0;have r12:r1≤255:=by omega
 clear r11;go_wp2_with fail
 refine (drawN_any 65536 B a len cap size _ (by omega) hl D1.out.src).mono ?_;rintro e U2 ⟨r2,rfl,r20,r21,hs1,hg1⟩;have D2:Hid (Dr w B a len cap size U2):=D1.out.draw hs1 hg1;have K2:Hid (BoxW4 U2 w.heap.size p4Zero):=K1.out.drawn hg1 hOB;clear hs1 hg1 D1 K1;have r22:r2≤65535:=by omega
 clear r21;go_wp2_with fail
 refine (drawOne_any 3 B a len cap size _ (by omega) hl D2.out.src).mono ?_;rintro e U3 ⟨b1,rfl,hs1,hg1⟩;have D3:Hid (Dr w B a len cap size U3):=D2.out.draw hs1 hg1;have K3:Hid (BoxW4 U3 w.heap.size p4Zero):=K2.out.drawn hg1 hOB;clear hs1 hg1 D2 K2;go_wp2_with fail
 refine (drawN_any 64 B a len cap size _ (by omega) hl D3.out.src).mono ?_;rintro e U4 ⟨r3,rfl,r30,r31,hs1,hg1⟩;have D4:Hid (Dr w B a len cap size U4):=D3.out.draw hs1 hg1;have K4:Hid (BoxW4 U4 w.heap.size p4Zero):=K3.out.drawn hg1 hOB;clear hs1 hg1 D3 K3;have r32:r3≤63:=by omega
 clear r31;go_wp2_with fail
 refine (drawAddr_any false B a len cap size _ hl D4.out.src).mono ?_;rintro e U5 ⟨s1,rfl,s1z,hs1,hg1⟩;have D5:Hid (Dr w B a len cap size U5):=D4.out.draw hs1 hg1;have K5:Hid (BoxW4 U5 w.heap.size p4Zero):=K4.out.drawn hg1 hOB;clear hs1 hg1 D4 K4;simp only [Bool.false_eq_true,if_false,if_true] at s1z;go_wp2_with fail
 refine (drawAddr_any false B a len cap size _ hl D5.out.src).mono ?_;rintro e U6 ⟨s2,rfl,s2z,hs1,hg1⟩;have D6:Hid (Dr w B a len cap size U6):=D5.out.draw hs1 hg1;have K6:Hid (BoxW4 U6 w.heap.size p4Zero):=K5.out.drawn hg1 hOB;clear hs1 hg1 D5 K5;simp only [Bool.false_eq_true,if_false,if_true] at s2z;have q7:Below U6.heap.size U6 (U6.alloc (.cells #[.int .i64 r1,.int .i64 r2,.bool b1,.bool false,.int .i64 0,.int .i64 (1+r3),.int .i64 0,.string s1,.string s2,.string ⟨#[]⟩,.string ⟨#[]⟩] 34)):=(Below.refl _ _).alloc (Nat.le_refl _) _;have hUL:w.heap.size < U6.heap.size:=World.block_lt_of_cell? U6 _ K6.out.c0;have S0:Hid (DS4 w B a len cap size w.heap.size U6.heap.size (U6.alloc (.cells #[.int .i64 r1,.int .i64 r2,.bool b1,.bool false,.int .i64 0,.int .i64 (1+r3),.int .i64 0,.string s1,.string s2,.string ⟨#[]⟩,.string ⟨#[]⟩] 34)) ⟨r1,r2,b1,false,0,1+r3,0,s1,s2,⟨#[]⟩,⟨#[]⟩⟩):=⟨D6.out.below q7,K6.out.kept q7,BoxW4.made U6 ⟨r1,r2,b1,false,0,1+r3,0,s1,s2,⟨#[]⟩,⟨#[]⟩⟩,Nat.le_refl _,by omega,by omega,by unfold Bd4 In64t; dsimp only; have hz0:(ByteArray.mk #[]).size=0:=rfl; omega⟩;clear q7 D6 K6;go_upto_region 2 with fail
 generalize U6.alloc (.cells #[.int .i64 r1,.int .i64 r2,.bool b1,.bool false,.int .i64 0,.int .i64 (1+r3),.int .i64 0,.string s1,.string s2,.string ⟨#[]⟩,.string ⟨#[]⟩] 34)=W7 at *;generalize U6.heap.size=Pb at *;have c7:=S0.out.box.c7;have c8:=S0.out.box.c8;go_wp2_with fail
 refine (drawFlow_any s1 s2 B a len cap size _ (by omega) (by omega) hl S0.out.dr.src).mono ?_;rintro e W8 ⟨⟨fp,fx,fy,rfl,hfp,hfx,hfy⟩,hs1,hg1⟩;have S8:Hid (DS4 w B a len cap size w.heap.size Pb W8 _):=S0.out.draw hs1 hg1;have q8:Below W8.heap.size W8 (W8.alloc (.cells #[.int .i64 fp,.string s1,.string s2,.int .i64 fx,.int .i64 fy] 88)):=(Below.refl _ _).alloc (Nat.le_refl _) _;have S9:Hid (DS4 w B a len cap size w.heap.size Pb (W8.alloc (.cells #[.int .i64 fp,.string s1,.string s2,.int .i64 fx,.int .i64 fy] 88)) _):=S8.out.below q8;have FB:Hid (BoxF (W8.alloc (.cells #[.int .i64 fp,.string s1,.string s2,.int .i64 fx,.int .i64 fy] 88)) W8.heap.size fp s1 s2 fx fy):=BoxF.new W8;have hPf:Pb < W8.heap.size:=World.block_lt_of_cell? W8 _ S8.out.box.c0;clear hs1 hg1 q8 S8 S0 c7 c8;unfold flC;go_upto_region 3 with fail
 generalize W8.alloc (.cells #[.int .i64 fp,.string s1,.string s2,.int .i64 fx,.int .i64 fy] 88)=W9 at *;generalize W8.heap.size=Fb at *;have hPF:Pb≠Fb:=by omega
 have fc0:=FB.out.c0;have FB2:Hid _:=FB.out.other (o:=6) (.int .i64 fp) hPF;have c6:=S9.out.box.c6;have f6:=S9.out.box.f6;have S1:Hid _:=S9.out.set6 (fp) (by have hbd:=S9.out.bd; unfold Bd4 In64t at *; dsimp only at *; omega);go_upto_region 4 with fail
 clear c6 f6 S9;generalize W9.setCell ⟨Pb,6,none⟩ (.int .i64 fp)=W10 at *;clear fc0 FB;obtain ⟨fc0,ff0,fc1,ff1,fc2,ff2,fc3,ff3,fc4,ff4⟩:=FB2.out;go_wp2_with fail
 refine (drawData_any fp s1 s2 fx fy B a len cap size _ hfp (by omega) (by omega) hfx hfy hl S1.out.dr.src).mono ?_;rintro e V2 ⟨⟨dt,rfl,dtz⟩,hs1,hg1⟩;have S2:Hid (DS4 w B a len cap size w.heap.size Pb V2 _):=S1.out.draw hs1 hg1;clear hs1 hg1 S1 FB2 fc0 ff0 fc1 ff1 fc2 ff2 fc3 ff3 fc4 ff4;have c10:=S2.out.box.c10;have f10:=S2.out.box.f10;have S3:Hid _:=S2.out.set10 (dt) (by have hbd:=S2.out.bd; unfold Bd4 In64t at *; dsimp only at *; omega);go_upto_region 5 with fail
 clear c10 f10 S2;generalize V2.setCell ⟨Pb,10,none⟩ (.string dt)=W11 at *;go_wp2_with fail
 refine (drawOne_any 6 B a len cap size _ (by omega) hl S3.out.dr.src).mono ?_;rintro e V4 ⟨b6,rfl,hs1,hg1⟩;have S4:Hid (DS4 w B a len cap size w.heap.size Pb V4 _):=S3.out.draw hs1 hg1;clear hs1 hg1 S3;obtain ⟨pk,SP5⟩ : ∃ pk,Hid (DS4 w B a len cap size w.heap.size Pb _ pk):=⟨_,S4⟩;clear S4;go_upto_if 33 with fail
 go_cut [3] (fun v wx=>v=.pointer (some ⟨Pb,0,none⟩)∧∃ pq,DS4 w B a len cap size w.heap.size Pb wx pq)
 case first =>
  cases b6 with
  | false =>
   go_wp2_with fail
   go_meet;exact ⟨rfl,_,SP5.out⟩
  | true =>
  have c2:=SP5.out.box.c2;have f2:=SP5.out.box.f2;have S6:Hid _:=SP5.out.set2 (false) (by have hbd:=SP5.out.bd; unfold Bd4 In64t at *; dsimp only at *; omega);go_wp2_with fail
  clear c2 f2 SP5;refine (drawN_any 3 B a len cap size _ (by omega) hl S6.out.dr.src).mono ?_;rintro e V7 ⟨ra,rfl,ra0,ra1,hs1,hg1⟩;have S7:Hid (DS4 w B a len cap size w.heap.size Pb V7 _):=S6.out.draw hs1 hg1;clear hs1 hg1 S6;have ra2:ra≤2:=by omega
  clear ra1;have c4:=S7.out.box.c4;have f4:=S7.out.box.f4;have S8:Hid _:=S7.out.set4 (ra*100) (by have hbd:=S7.out.bd; unfold Bd4 In64t at *; dsimp only at *; omega);go_wp2_with fail
  clear c4 f4 S7;refine (drawOne_any 2 B a len cap size _ (by omega) hl S8.out.dr.src).mono ?_;rintro e V9 ⟨bb,rfl,hs1,hg1⟩;have S9:Hid (DS4 w B a len cap size w.heap.size Pb V9 _):=S8.out.draw hs1 hg1;clear hs1 hg1 S8;have c3:=S9.out.box.c3;have f3:=S9.out.box.f3;have S10:Hid _:=S9.out.set3 (bb) (by have hbd:=S9.out.bd; unfold Bd4 In64t at *; dsimp only at *; omega);go_wp2_with fail
  clear c3 f3 S9;refine (drawN_any 4 B a len cap size _ (by omega) hl S10.out.dr.src).mono ?_;rintro e V11 ⟨rb,rfl,rb0,rb1,hs1,hg1⟩;have S11:Hid (DS4 w B a len cap size w.heap.size Pb V11 _):=S10.out.draw hs1 hg1;clear hs1 hg1 S10;have rb2:rb≤3:=by omega
  clear rb1;obtain ⟨kb,rfl⟩:=Int.eq_ofNat_of_zero_le rb0;go_wp2_with fail
  refine (drawBytesI (8*kb) _ (by omega) B a len cap size _ (by omega) hl S11.out.dr.src).mono ?_;rintro e V12 ⟨db,rfl,dbz,hs1,hg1⟩;have S12:Hid (DS4 w B a len cap size w.heap.size Pb V12 _):=S11.out.draw hs1 hg1;clear hs1 hg1 S11;have c10:=S12.out.box.c10;have f10:=S12.out.box.f10;have S13:Hid _:=S12.out.set10 (db) (by have hbd:=S12.out.bd; unfold Bd4 In64t at *; dsimp only at *; omega);go_wp2_with fail
  clear c10 f10 S12;go_meet;exact ⟨rfl,_,S13.out⟩
 case rest =>
 obtain ⟨rfl,pk,hSP⟩:=hcut;have SP14:Hid _:=hSP;clear hSP SP5;go_wp2_with fail
 refine (drawOne_any 8 B a len cap size _ (by omega) hl SP14.out.dr.src).mono ?_;rintro e V15 ⟨b8,rfl,hs1,hg1⟩;have S15:Hid (DS4 w B a len cap size w.heap.size Pb V15 _):=SP14.out.draw hs1 hg1;clear hs1 hg1 SP14;go_upto_if 49 with fail
 go_cut [3] (fun v wx=>v=.pointer (some ⟨Pb,0,none⟩)∧∃ pq,DS4 w B a len cap size w.heap.size Pb wx pq)
 case first =>
  cases b8 with
  | false =>
   go_wp2_with fail
   go_meet;exact ⟨rfl,_,S15.out⟩
  | true =>
  go_wp2_with fail
  refine (drawN_any 4 B a len cap size _ (by omega) hl S15.out.dr.src).mono ?_;rintro e V16 ⟨rc,rfl,rc0,rc1,hs1,hg1⟩;have S16:Hid (DS4 w B a len cap size w.heap.size Pb V16 _):=S15.out.draw hs1 hg1;clear hs1 hg1 S15;have rc2:rc≤3:=by omega
  clear rc1;obtain ⟨kc,rfl⟩:=Int.eq_ofNat_of_zero_le rc0;go_wp2_with fail
  refine (drawBytesI (4*kc) _ (by omega) B a len cap size _ (by omega) hl S16.out.dr.src).mono ?_;rintro e V17 ⟨dc,rfl,dcz,hs1,hg1⟩;have S17:Hid (DS4 w B a len cap size w.heap.size Pb V17 _):=S16.out.draw hs1 hg1;clear hs1 hg1 S16;have c9:=S17.out.box.c9;have f9:=S17.out.box.f9;have S18:Hid _:=S17.out.set9 (dc) (by have hbd:=S17.out.bd; unfold Bd4 In64t at *; dsimp only at *; omega);go_wp2_with fail
  clear c9 f9 S17;go_meet;exact ⟨rfl,_,S18.out⟩
 case rest =>
 obtain ⟨rfl,pk,hSP⟩:=hcut;have SP19:Hid _:=hSP;clear hSP S15;go_wp2_with fail
 refine (drawOne_any 25 B a len cap size _ (by omega) hl SP19.out.dr.src).mono ?_;rintro e V20 ⟨b25,rfl,hs1,hg1⟩;have S20:Hid (DS4 w B a len cap size w.heap.size Pb V20 _):=SP19.out.draw hs1 hg1;clear hs1 hg1 SP19;go_upto_if 57 with fail
 go_cut [3] (fun v wx=>v=.pointer (some ⟨Pb,0,none⟩)∧∃ pq,DS4 w B a len cap size w.heap.size Pb wx pq)
 case first =>
  cases b25 with
  | false =>
   go_wp2_with fail
   go_meet;exact ⟨rfl,_,S20.out⟩
  | true =>
  go_wp2_with fail
  refine (drawN_any 5 B a len cap size _ (by omega) hl S20.out.dr.src).mono ?_;rintro e V21 ⟨rs,rfl,rs0,rs1,hs1,hg1⟩;have S21:Hid (DS4 w B a len cap size w.heap.size Pb V21 _):=S20.out.draw hs1 hg1;clear hs1 hg1 S20;have rs2:rs≤4:=by omega
  clear rs1;have hrs:rs=0∨rs=1∨rs=2∨rs=3∨rs=4:=by omega
  rcases hrs with rfl | rfl | rfl | rfl | rfl
  ·go_wp2_with fail
   refine (drawN_more 3 B a len cap size _ (by omega) (by omega) hl (S21.out.dr.alloc _).src).mono ?_;rintro e V22 ⟨r,rfl,q0,q1,hs1,hg1⟩;obtain ⟨kk,rfl⟩:=Int.eq_ofNat_of_zero_le q0;obtain ⟨v,hcell,xv,rfl,hxv⟩:=pick_cell (k:=kk) (p:=fun v=>∃ x,v=.int .i64 x∧(-1≤x∧x≤4294967296)) (cs:=[.int .i64 (-1),.int .i64 8191,.int .i64 8192]) hg1 (by have:=S21.out.dr.le; omega) (by simp; omega) (by simp);have S22:Hid (DS4 w B a len cap size w.heap.size Pb V22 _):=(S21.out.below ((Below.refl _ _).alloc (Nat.le_refl _) _)).draw hs1 hg1;have q1':(kk:Int) < 3:=by omega
   clear hs1 hg1 q0 q1 S21;have c4:=S22.out.box.c4;have f4:=S22.out.box.f4;have S23:Hid _:=S22.out.set4 (xv) (by have hbd:=S22.out.bd; unfold Bd4 In64t at *; dsimp only at *; omega);go_wp2_with fail
   clear c4 f4 S22;go_meet;exact ⟨rfl,_,S23.out⟩
  ·go_wp2_with fail
   refine (drawN_more 4 B a len cap size _ (by omega) (by omega) hl (S21.out.dr.alloc _).src).mono ?_;rintro e V24 ⟨r,rfl,q0,q1,hs1,hg1⟩;obtain ⟨kk,rfl⟩:=Int.eq_ofNat_of_zero_le q0;obtain ⟨v,hcell,xv,rfl,hxv⟩:=pick_cell (k:=kk) (p:=fun v=>∃ x,v=.int .i64 x∧(-1≤x∧x≤4294967296)) (cs:=[.int .i64 (-1),.int .i64 0,.int .i64 255,.int .i64 256]) hg1 (by have:=S21.out.dr.le; omega) (by simp; omega) (by simp);have S24:Hid (DS4 w B a len cap size w.heap.size Pb V24 _):=(S21.out.below ((Below.refl _ _).alloc (Nat.le_refl _) _)).draw hs1 hg1;have q1':(kk:Int) < 4:=by omega
   clear hs1 hg1 q0 q1 S21;have c5:=S24.out.box.c5;have f5:=S24.out.box.f5;have S25:Hid _:=S24.out.set5 (xv) (by have hbd:=S24.out.bd; unfold Bd4 In64t at *; dsimp only at *; omega);go_wp2_with fail
   clear c5 f5 S24;go_meet;exact ⟨rfl,_,S25.out⟩
  ·go_wp2_with fail
   refine (drawN_any 50 B a len cap size _ (by omega) hl S21.out.dr.src).mono ?_;rintro e V26 ⟨rd,rfl,rd0,rd1,hs1,hg1⟩;have S26:Hid (DS4 w B a len cap size w.heap.size Pb V26 _):=S21.out.draw hs1 hg1;clear hs1 hg1 S21;have rd2:rd≤49:=by omega
   clear rd1;obtain ⟨kd,rfl⟩:=Int.eq_ofNat_of_zero_le rd0;go_wp2_with fail
   refine (drawBytesI (kd) _ (by omega) B a len cap size _ (by omega) hl S26.out.dr.src).mono ?_;rintro e V27 ⟨dd,rfl,ddz,hs1,hg1⟩;have S27:Hid (DS4 w B a len cap size w.heap.size Pb V27 _):=S26.out.draw hs1 hg1;clear hs1 hg1 S26;have c9:=S27.out.box.c9;have f9:=S27.out.box.f9;have S28:Hid _:=S27.out.set9 (dd) (by have hbd:=S27.out.bd; unfold Bd4 In64t at *; dsimp only at *; omega);go_wp2_with fail
   clear c9 f9 S27;go_meet;exact ⟨rfl,_,S28.out⟩
  ·go_wp2_with fail
   refine (drawN_any 3 B a len cap size _ (by omega) hl S21.out.dr.src).mono ?_;rintro e V29 ⟨rz,rfl,rz0,rz1,hs1,hg1⟩;have S29:Hid (DS4 w B a len cap size w.heap.size Pb V29 _):=S21.out.draw hs1 hg1;clear hs1 hg1 S21;have rz2:rz≤2:=by omega
   clear rz1;obtain ⟨kz,rfl⟩:=Int.eq_ofNat_of_zero_le rz0;obtain ⟨uz,Wz,hmk,hcv,hzz,hbz,-⟩:=mkz (1399+kz) V29 (by omega);rw [show ((1399+kz:Nat):Int)=1399+(kz:Int) by omega] at hmk;have S30:Hid (DS4 w B a len cap size w.heap.size Pb Wz _):=S29.out.below hbz;clear hbz S29;have c10:=S30.out.box.c10;have f10:=S30.out.box.f10;have S31:Hid _:=S30.out.set10 (uz) (by have hbd:=S30.out.bd; unfold Bd4 In64t at *; dsimp only at *; omega);go_wp2_with fail
   clear c10 f10 S30;go_meet;exact ⟨rfl,_,S31.out⟩
  ·go_wp2_with fail
   refine (drawAny_any B a len cap size _ hl S21.out.dr.src).mono ?_;rintro e V32 ⟨ua,rfl,uaz,hs1,hg1⟩;have S32:Hid (DS4 w B a len cap size w.heap.size Pb V32 _):=S21.out.draw hs1 hg1;clear hs1 hg1 S21;have c7:=S32.out.box.c7;have f7:=S32.out.box.f7;have S33:Hid _:=S32.out.set7 (ua) (by have hbd:=S32.out.bd; unfold Bd4 In64t at *; dsimp only at *; omega);go_wp2_with fail
   clear c7 f7 S32;go_meet;exact ⟨rfl,_,S33.out⟩
 case rest =>
 obtain ⟨rfl,pk,hSP⟩:=hcut;have SP34:Hid _:=hSP;clear hSP S20;obtain ⟨tos,id,whole,more,off,ttl,proto,src,dst,opts,data⟩:=pk;obtain ⟨c0,f0,c1,f1,c2,f2,c3,f3,c4,f4,c5,f5,c6,f6,c7,f7,c8,f8,c9,f9,c10,f10⟩:=SP34.out.box;obtain ⟨o0,y0,o1,y1,o2,y2,o3,y3,o4,y4,o5,y5,o6,y6,o7,y7,o8,y8,o9,y9,o10,y10⟩:=SP34.out.out;dsimp only [p4Zero] at c0 o0 c1 o1 c2 o2 c3 o3 c4 o4 c5 o5 c6 o6 c7 o7 c8 o8 c9 o9 c10 o10;go_wp2_with fail
 exact bodyPost_ret (v:=.agg #[.int .i64 tos,.int .i64 id,.bool whole,.bool more,.int .i64 off,.int .i64 ttl,.int .i64 proto,.string src,.string dst,.string opts,.string data]) (by simp [results,Try.results31,go_sem,o0,o1,o2,o3,o4,o5,o6,o7,o8,o9,o10]) rfl (by
  have D2:=(((((((((((SP34.out.dr.set w.heap.size 0 (.int .i64 tos) (Nat.le_refl _)).set w.heap.size 1 (.int .i64 id) (Nat.le_refl _)).set w.heap.size 2 (.bool whole) (Nat.le_refl _)).set w.heap.size 3 (.bool more) (Nat.le_refl _)).set w.heap.size 4 (.int .i64 off) (Nat.le_refl _)).set w.heap.size 5 (.int .i64 ttl) (Nat.le_refl _)).set w.heap.size 6 (.int .i64 proto) (Nat.le_refl _)).set w.heap.size 7 (.string src) (Nat.le_refl _)).set w.heap.size 8 (.string dst) (Nat.le_refl _)).set w.heap.size 9 (.string opts) (Nat.le_refl _)).set w.heap.size 10 (.string data) (Nat.le_refl _));exact ⟨⟨⟨tos,id,whole,more,off,ttl,proto,src,dst,opts,data⟩,rfl,SP34.out.bd⟩,D2.src,D2.grown⟩)
end Go.Proofs.Ytagbhaalmjpkjaa
