import Derived.Test.YtagbhaalmjpkjaaMerged10
set_option linter.unusedVariables false
set_option linter.unusedSimpArgs false
set_option maxRecDepth 100000
set_option maxHeartbeats 8000000
namespace Go.Proofs.Ytagbhaalmjpkjaa
open Go.RowKit Go.PlainAid Go.Lib
theorem specTellSix_any (s:ByteArray) (p:P6) (k c n:Int) (w:World) (hs:s.size≤1048576) (hp:P6Sm p) (hw:P6Wf p) :
  Calls Try.prog 18 #[.string s,p6C p,.int .i64 k,.int .i64 c,.int .i64 n] w fun e w'=>e=.returned (p6CO (tell6V s p k c n) (tell6C s p k c n))∧Below w.heap.size w w':=by
 have HR:Hid (∀ W,Calls Try.prog 19 #[p6C p] W fun e w'=>e=.returned (.bool (v6Ok p))∧Below W.heap.size W w'):=fun W=>specV6Right_sm p W hp hw
 have HK:Hid (∀ W,Calls Try.prog 41 #[.int .i64 k] W fun e w'=>e=.returned (.bool (isIn k 0 255))∧w'=W):=fun W=>specByte_any k W
 have HC:Hid (∀ W,Calls Try.prog 41 #[.int .i64 c] W fun e w'=>e=.returned (.bool (isIn c 0 255))∧w'=W):=fun W=>specByte_any c W
 have HN:Hid (∀ W,Calls Try.prog 42 #[.int .i64 n] W fun e w'=>e=.returned (.bool (isW n))∧w'=W):=fun W=>specWordIs_any n W
 have HA1:Hid _:=(told6_any s p k c n).long;have HA2:Hid _:=(told6_any s p k c n).form;have HA3:Hid _:=(told6_any s p k c n).kind;have HA4:Hid _:=(told6_any s p k c n).fine;have HRW:Hid (v6Ok p=true→∀ W,Calls Try.prog 55 #[p6C p] W fun e w'=>e=.returned (.string (v6Raw p))∧Below W.heap.size W w'):=fun h W=>specV6Raw_any p W h
 have HSZ:Hid (v6Ok p=true→(v6Raw p).size≤2000∧p.src.size=16∧(((v6Raw p).extract 0 (1200)).size≤2000)):=fun h=>by
  have:=raw6_size h;have h2:((v6Raw p).extract 0 (1200)).size≤(v6Raw p).size:=by rw [ByteArray.size_extract]; omega
  omega
 have HF:Hid (v6Ok p=true→∀ W,Calls Try.prog 43 #[.string (v6Raw p),.int .i64 (1200)] W fun e w'=>e=.returned (.string ((v6Raw p).extract 0 (1200)))∧Below W.heap.size W w'):=fun h W=>by
  have hz:=HSZ.out h;have:=first_any (v6Raw p) (1200) W (by omega) (by omega);skip
  exact this.mono fun e w' ⟨h1,h2⟩=>⟨h1,by rw [h2]; exact Below.refl _ _⟩
 have HT2:Hid (isW n=true→∀ W,Calls Try.prog 45 #[.int .i64 n] W fun e w'=>e=.returned (.string (twoV n))∧Below W.heap.size W w'):=fun h W=>by
  have h':=isIn_parts (lo:=0) (hi:=65535) h;exact specTwo_any n W h'.1 h'.2
 have HBA:Hid (bare6 p k c n=sixV k c++twoV n++(v6Raw p).extract 0 (1200)):=rfl;have HBZ:Hid (v6Ok p=true→(bare6 p k c n).size≤3000∧8≤(bare6 p k c n).size):=fun h=>by
  have:=HSZ.out h;unfold bare6; rw [msgV_size]; omega
 have HSM:Hid (v6Ok p=true→s.size=16→∀ W,Calls Try.prog 49 #[.string s,.string p.src,.int .i64 58,.string (bare6 p k c n)] W fun e w'=>e=.returned (.int .i64 (cSum s p.src 58 (bare6 p k c n)))∧Below W.heap.size W w'):=fun h hs W=>by
  have hz:=HBZ.out h;have hy:=HSZ.out h;exact spSum_any s p.src 58 _ W (by omega) (by omega) (by omega) (by omega)
 have HSR:Hid (0≤cSum s p.src 58 (bare6 p k c n)∧cSum s p.src 58 (bare6 p k c n)≤65535):=sumV_range _;have HT3:Hid (∀ W,Calls Try.prog 45 #[.int .i64 (65535-cSum s p.src 58 (bare6 p k c n))] W fun e w'=>e=.returned (.string (twoV (65535-cSum s p.src 58 (bare6 p k c n))))∧Below W.heap.size W w'):=fun W=>by
  have:=HSR.out;exact specTwo_any _ W (by omega) (by omega)
 have HPT:Hid (v6Ok p=true→∀ W,Calls Try.prog 46 #[.string (bare6 p k c n),.int .i64 2,.string (twoV (65535-cSum s p.src 58 (bare6 p k c n)))] W fun e w'=>e=.returned (.string (told6 s p k c n))∧Below W.heap.size W w'):=fun h W=>by
  have hz:=HBZ.out h;exact spPut_any (bare6 p k c n) 2 (twoV (65535-cSum s p.src 58 (bare6 p k c n))) W (by rw [twoV_size]; omega) (by omega)
 have HDU:Hid (dumb6 p=(!decide (p.off=0)||(p.src.toList==z16)||decide (bt p.src 0=255)||(decide (p.next=58)&&(decide (p.data.size=0)||decide (bt p.data 0 < 128))))):=rfl;have hkr:Hid (isIn k 0 255=true→0≤k∧k≤255):=fun h=>isIn_parts h
 have hcr:Hid (isIn c 0 255=true→0≤c∧c≤255):=fun h=>isIn_parts h
 generalize v6Ok p=ok at *;generalize isIn k 0 255=bk at *;generalize isIn c 0 255=bc at *;generalize isW n=bn at *;generalize dumb6 p=du at *;generalize tell6C s p k c n=code at *;generalize tell6V s p k c n=ans at *;generalize told6 s p k c n=tl at *;generalize cSum s p.src 58 (bare6 p k c n)=sm at *;generalize bare6 p k c n=ba at *;generalize (v6Raw p).extract 0 (1200)=qt at *;generalize v6Raw p=rw at *;clear hp hw;obtain ⟨cls,flow,next,hops,src,dst,piece,more,off,id,data⟩:=p;unfold p6C at *;dsimp only at *;have e0:HoldsL ((w.alloc (.cells #[.int .i64 cls,.int .i64 flow,.int .i64 next,.int .i64 hops,.string src,.string dst,.bool piece,.bool more,.int .i64 off,.int .i64 id,.string data] 43)).alloc (.cells #[.int .i64 0,.int .i64 0,.int .i64 0,.int .i64 0,.string ⟨#[]⟩,.string ⟨#[]⟩,.bool false,.bool false,.int .i64 0,.int .i64 0,.string ⟨#[]⟩,.int .i64 0] 47)) (w.heap.size) [.int .i64 cls,.int .i64 flow,.int .i64 next,.int .i64 hops,.string src,.string dst,.bool piece,.bool more,.int .i64 off,.int .i64 id,.string data]:=by
  have h:=HoldsL.new w [.int .i64 cls,.int .i64 flow,.int .i64 next,.int .i64 hops,.string src,.string dst,.bool piece,.bool more,.int .i64 off,.int .i64 id,.string data] 43;try simp only [World.size_alloc] at h
  exact (h.alloc _)
 have e1:HoldsL ((w.alloc (.cells #[.int .i64 cls,.int .i64 flow,.int .i64 next,.int .i64 hops,.string src,.string dst,.bool piece,.bool more,.int .i64 off,.int .i64 id,.string data] 43)).alloc (.cells #[.int .i64 0,.int .i64 0,.int .i64 0,.int .i64 0,.string ⟨#[]⟩,.string ⟨#[]⟩,.bool false,.bool false,.int .i64 0,.int .i64 0,.string ⟨#[]⟩,.int .i64 0] 47)) (w.heap.size+1) [.int .i64 0,.int .i64 0,.int .i64 0,.int .i64 0,.string ⟨#[]⟩,.string ⟨#[]⟩,.bool false,.bool false,.int .i64 0,.int .i64 0,.string ⟨#[]⟩,.int .i64 0]:=by
  have h:=HoldsL.new (w.alloc (.cells #[.int .i64 cls,.int .i64 flow,.int .i64 next,.int .i64 hops,.string src,.string dst,.bool piece,.bool more,.int .i64 off,.int .i64 id,.string data] 43)) [.int .i64 0,.int .i64 0,.int .i64 0,.int .i64 0,.string ⟨#[]⟩,.string ⟨#[]⟩,.bool false,.bool false,.int .i64 0,.int .i64 0,.string ⟨#[]⟩,.int .i64 0] 47;try simp only [World.size_alloc] at h
  exact h
 have HS0:Hid (Bxs w [(w.heap.size,[.int .i64 cls,.int .i64 flow,.int .i64 next,.int .i64 hops,.string src,.string dst,.bool piece,.bool more,.int .i64 off,.int .i64 id,.string data]),(w.heap.size+1,[.int .i64 0,.int .i64 0,.int .i64 0,.int .i64 0,.string ⟨#[]⟩,.string ⟨#[]⟩,.bool false,.bool false,.int .i64 0,.int .i64 0,.string ⟨#[]⟩,.int .i64 0])] ((w.alloc (.cells #[.int .i64 cls,.int .i64 flow,.int .i64 next,.int .i64 hops,.string src,.string dst,.bool piece,.bool more,.int .i64 off,.int .i64 id,.string data] 43)).alloc (.cells #[.int .i64 0,.int .i64 0,.int .i64 0,.int .i64 0,.string ⟨#[]⟩,.string ⟨#[]⟩,.bool false,.bool false,.int .i64 0,.int .i64 0,.string ⟨#[]⟩,.int .i64 0] 47))):=by
  refine ⟨fun e he=>?_,(((Below.refl _ _).alloc (by (try simp only [World.size_alloc]); omega) _).alloc (by (try simp only [World.size_alloc]); omega) _),fun e he=>?_⟩
  ·simp only [List.mem_cons,List.not_mem_nil,or_false] at he;rcases he with rfl | rfl
   ·exact e0
   ·exact e1
  ·simp only [List.mem_cons,List.not_mem_nil,or_false] at he;rcases he with rfl | rfl<;>simp
 clear e0 e1;have hlr:w.heap.size≤w.heap.size+1:=by omega
 have hun:undef=Value.tuple #[]:=rfl;go_enter Try.func18,Try.ntmps18
 go_upto_region 1 with fail
 generalize ((w.alloc (.cells #[.int .i64 cls,.int .i64 flow,.int .i64 next,.int .i64 hops,.string src,.string dst,.bool piece,.bool more,.int .i64 off,.int .i64 id,.string data] 43)).alloc (.cells #[.int .i64 0,.int .i64 0,.int .i64 0,.int .i64 0,.string ⟨#[]⟩,.string ⟨#[]⟩,.bool false,.bool false,.int .i64 0,.int .i64 0,.string ⟨#[]⟩,.int .i64 0] 47))=W0 at *;by_cases c1:20000 < s.size
 case pos =>
  have c1':(20000:Int) < s.size:=by omega
  go_upto_region 2 with fail
  obtain ⟨x1,x2⟩:=HA1.out c1;have X1:Hid _:=x1;have X2:Hid _:=x2;clear x1 x2 HA1 HA2 HA3 HA4;have HHz:=HS0.out.at (.tail _ (.head _));have z0:=HHz.cell (j:=0) rfl;have z1:=HHz.cell (j:=1) rfl;have z2:=HHz.cell (j:=2) rfl;have z3:=HHz.cell (j:=3) rfl;have z4:=HHz.cell (j:=4) rfl;have z5:=HHz.cell (j:=5) rfl;have z6:=HHz.cell (j:=6) rfl;have z7:=HHz.cell (j:=7) rfl;have z8:=HHz.cell (j:=8) rfl;have z9:=HHz.cell (j:=9) rfl;have z10:=HHz.cell (j:=10) rfl;have z11:=HHz.cell (j:=11) rfl;have zf0:=HHz.free (j:=0) (by simp);have zf1:=HHz.free (j:=1) (by simp);have zf2:=HHz.free (j:=2) (by simp);have zf3:=HHz.free (j:=3) (by simp);have zf4:=HHz.free (j:=4) (by simp);have zf5:=HHz.free (j:=5) (by simp);have zf6:=HHz.free (j:=6) (by simp);have zf7:=HHz.free (j:=7) (by simp);have zf8:=HHz.free (j:=8) (by simp);have zf9:=HHz.free (j:=9) (by simp);have zf10:=HHz.free (j:=10) (by simp);have zf11:=HHz.free (j:=11) (by simp);have HRR:Hid (HoldsL ((((((((((((W0.setCell ⟨w.heap.size+1,0,none⟩ (.int .i64 0)).setCell ⟨w.heap.size+1,1,none⟩ (.int .i64 0)).setCell ⟨w.heap.size+1,2,none⟩ (.int .i64 0)).setCell ⟨w.heap.size+1,3,none⟩ (.int .i64 0)).setCell ⟨w.heap.size+1,4,none⟩ (.string ⟨#[]⟩)).setCell ⟨w.heap.size+1,5,none⟩ (.string ⟨#[]⟩)).setCell ⟨w.heap.size+1,6,none⟩ (.bool false)).setCell ⟨w.heap.size+1,7,none⟩ (.bool false)).setCell ⟨w.heap.size+1,8,none⟩ (.int .i64 0)).setCell ⟨w.heap.size+1,9,none⟩ (.int .i64 0)).setCell ⟨w.heap.size+1,10,none⟩ (.string ⟨#[]⟩)).setCell ⟨w.heap.size+1,11,none⟩ (.int .i64 2)) (w.heap.size+1) [.int .i64 0,.int .i64 0,.int .i64 0,.int .i64 0,.string ⟨#[]⟩,.string ⟨#[]⟩,.bool false,.bool false,.int .i64 0,.int .i64 0,.string ⟨#[]⟩,.int .i64 2]):=((((((((((((HHz.set 0 (.int .i64 0)).set 1 (.int .i64 0)).set 2 (.int .i64 0)).set 3 (.int .i64 0)).set 4 (.string ⟨#[]⟩)).set 5 (.string ⟨#[]⟩)).set 6 (.bool false)).set 7 (.bool false)).set 8 (.int .i64 0)).set 9 (.int .i64 0)).set 10 (.string ⟨#[]⟩)).set 11 (.int .i64 2));have RB:Hid _:=((((((((((((HS0.out.b.setCell (p:=⟨w.heap.size+1,0,none⟩) hlr (.int .i64 0)).setCell (p:=⟨w.heap.size+1,1,none⟩) hlr (.int .i64 0)).setCell (p:=⟨w.heap.size+1,2,none⟩) hlr (.int .i64 0)).setCell (p:=⟨w.heap.size+1,3,none⟩) hlr (.int .i64 0)).setCell (p:=⟨w.heap.size+1,4,none⟩) hlr (.string ⟨#[]⟩)).setCell (p:=⟨w.heap.size+1,5,none⟩) hlr (.string ⟨#[]⟩)).setCell (p:=⟨w.heap.size+1,6,none⟩) hlr (.bool false)).setCell (p:=⟨w.heap.size+1,7,none⟩) hlr (.bool false)).setCell (p:=⟨w.heap.size+1,8,none⟩) hlr (.int .i64 0)).setCell (p:=⟨w.heap.size+1,9,none⟩) hlr (.int .i64 0)).setCell (p:=⟨w.heap.size+1,10,none⟩) hlr (.string ⟨#[]⟩)).setCell (p:=⟨w.heap.size+1,11,none⟩) hlr (.int .i64 2));clear HHz;go_wp2_with fail
  exact bodyPost_ret (results_mid Try.results18 _ _ (w.heap.size+1) [.int .i64 0,.int .i64 0,.int .i64 0,.int .i64 0,.string ⟨#[]⟩,.string ⟨#[]⟩,.bool false,.bool false,.int .i64 0,.int .i64 0,.string ⟨#[]⟩,.int .i64 2] _ rfl HRR.out Try.underlying47 rfl (show (Try.prog.info? 47).map (·.size)=some 12 by kernel_rfl)) rfl (And.intro (by rw [X1.out,X2.out]; rfl) RB.out)
 have c1':¬ (20000:Int) < s.size:=by omega
 go_upto_region 3 with fail
 have HHk:=HS0.out.at (.head _);have k0:=HHk.cell (j:=0) rfl;have k1:=HHk.cell (j:=1) rfl;have k2:=HHk.cell (j:=2) rfl;have k3:=HHk.cell (j:=3) rfl;have k4:=HHk.cell (j:=4) rfl;have k5:=HHk.cell (j:=5) rfl;have k6:=HHk.cell (j:=6) rfl;have k7:=HHk.cell (j:=7) rfl;have k8:=HHk.cell (j:=8) rfl;have k9:=HHk.cell (j:=9) rfl;have k10:=HHk.cell (j:=10) rfl;clear HHk;go_wp2_with fail
 refine (HR.out _).mono ?_;rintro e W1 ⟨rfl,q1⟩;have S1:Hid _:=HS0.out.kept q1;clear q1 HS0 HR k0 k1 k2 k3 k4 k5 k6 k7 k8 k9 k10
 cases ok with
 | false =>
  go_upto_region 4 with fail
  obtain ⟨x1,x2⟩:=HA2.out c1 (.inl (by first | rfl | trivial));have X1:Hid _:=x1;have X2:Hid _:=x2;clear x1 x2 HA1 HA2 HA3 HA4;have HHz:=S1.out.at (.tail _ (.head _));have z0:=HHz.cell (j:=0) rfl;have z1:=HHz.cell (j:=1) rfl;have z2:=HHz.cell (j:=2) rfl;have z3:=HHz.cell (j:=3) rfl;have z4:=HHz.cell (j:=4) rfl;have z5:=HHz.cell (j:=5) rfl;have z6:=HHz.cell (j:=6) rfl;have z7:=HHz.cell (j:=7) rfl;have z8:=HHz.cell (j:=8) rfl;have z9:=HHz.cell (j:=9) rfl;have z10:=HHz.cell (j:=10) rfl;have z11:=HHz.cell (j:=11) rfl;have zf0:=HHz.free (j:=0) (by simp);have zf1:=HHz.free (j:=1) (by simp);have zf2:=HHz.free (j:=2) (by simp);have zf3:=HHz.free (j:=3) (by simp);have zf4:=HHz.free (j:=4) (by simp);have zf5:=HHz.free (j:=5) (by simp);have zf6:=HHz.free (j:=6) (by simp);have zf7:=HHz.free (j:=7) (by simp);have zf8:=HHz.free (j:=8) (by simp);have zf9:=HHz.free (j:=9) (by simp);have zf10:=HHz.free (j:=10) (by simp);have zf11:=HHz.free (j:=11) (by simp);have HRR:Hid (HoldsL ((((((((((((W1.setCell ⟨w.heap.size+1,0,none⟩ (.int .i64 0)).setCell ⟨w.heap.size+1,1,none⟩ (.int .i64 0)).setCell ⟨w.heap.size+1,2,none⟩ (.int .i64 0)).setCell ⟨w.heap.size+1,3,none⟩ (.int .i64 0)).setCell ⟨w.heap.size+1,4,none⟩ (.string ⟨#[]⟩)).setCell ⟨w.heap.size+1,5,none⟩ (.string ⟨#[]⟩)).setCell ⟨w.heap.size+1,6,none⟩ (.bool false)).setCell ⟨w.heap.size+1,7,none⟩ (.bool false)).setCell ⟨w.heap.size+1,8,none⟩ (.int .i64 0)).setCell ⟨w.heap.size+1,9,none⟩ (.int .i64 0)).setCell ⟨w.heap.size+1,10,none⟩ (.string ⟨#[]⟩)).setCell ⟨w.heap.size+1,11,none⟩ (.int .i64 1)) (w.heap.size+1) [.int .i64 0,.int .i64 0,.int .i64 0,.int .i64 0,.string ⟨#[]⟩,.string ⟨#[]⟩,.bool false,.bool false,.int .i64 0,.int .i64 0,.string ⟨#[]⟩,.int .i64 1]):=((((((((((((HHz.set 0 (.int .i64 0)).set 1 (.int .i64 0)).set 2 (.int .i64 0)).set 3 (.int .i64 0)).set 4 (.string ⟨#[]⟩)).set 5 (.string ⟨#[]⟩)).set 6 (.bool false)).set 7 (.bool false)).set 8 (.int .i64 0)).set 9 (.int .i64 0)).set 10 (.string ⟨#[]⟩)).set 11 (.int .i64 1));have RB:Hid _:=((((((((((((S1.out.b.setCell (p:=⟨w.heap.size+1,0,none⟩) hlr (.int .i64 0)).setCell (p:=⟨w.heap.size+1,1,none⟩) hlr (.int .i64 0)).setCell (p:=⟨w.heap.size+1,2,none⟩) hlr (.int .i64 0)).setCell (p:=⟨w.heap.size+1,3,none⟩) hlr (.int .i64 0)).setCell (p:=⟨w.heap.size+1,4,none⟩) hlr (.string ⟨#[]⟩)).setCell (p:=⟨w.heap.size+1,5,none⟩) hlr (.string ⟨#[]⟩)).setCell (p:=⟨w.heap.size+1,6,none⟩) hlr (.bool false)).setCell (p:=⟨w.heap.size+1,7,none⟩) hlr (.bool false)).setCell (p:=⟨w.heap.size+1,8,none⟩) hlr (.int .i64 0)).setCell (p:=⟨w.heap.size+1,9,none⟩) hlr (.int .i64 0)).setCell (p:=⟨w.heap.size+1,10,none⟩) hlr (.string ⟨#[]⟩)).setCell (p:=⟨w.heap.size+1,11,none⟩) hlr (.int .i64 1));clear HHz;go_wp2_with fail
  exact bodyPost_ret (results_mid Try.results18 _ _ (w.heap.size+1) [.int .i64 0,.int .i64 0,.int .i64 0,.int .i64 0,.string ⟨#[]⟩,.string ⟨#[]⟩,.bool false,.bool false,.int .i64 0,.int .i64 0,.string ⟨#[]⟩,.int .i64 1] _ rfl HRR.out Try.underlying47 rfl (show (Try.prog.info? 47).map (·.size)=some 12 by kernel_rfl)) rfl (And.intro (by rw [X1.out,X2.out]; rfl) RB.out)
 | true =>
 by_cases c2:s.size=16
 case neg =>
  have d2:((s.size:Int) != 16)=true:=by simp; omega
  go_upto_region 4 with fail
  obtain ⟨x1,x2⟩:=HA2.out c1 (.inr (.inl c2));have X1:Hid _:=x1;have X2:Hid _:=x2;clear x1 x2 HA1 HA2 HA3 HA4;have HHz:=S1.out.at (.tail _ (.head _));have z0:=HHz.cell (j:=0) rfl;have z1:=HHz.cell (j:=1) rfl;have z2:=HHz.cell (j:=2) rfl;have z3:=HHz.cell (j:=3) rfl;have z4:=HHz.cell (j:=4) rfl;have z5:=HHz.cell (j:=5) rfl;have z6:=HHz.cell (j:=6) rfl;have z7:=HHz.cell (j:=7) rfl;have z8:=HHz.cell (j:=8) rfl;have z9:=HHz.cell (j:=9) rfl;have z10:=HHz.cell (j:=10) rfl;have z11:=HHz.cell (j:=11) rfl;have zf0:=HHz.free (j:=0) (by simp);have zf1:=HHz.free (j:=1) (by simp);have zf2:=HHz.free (j:=2) (by simp);have zf3:=HHz.free (j:=3) (by simp);have zf4:=HHz.free (j:=4) (by simp);have zf5:=HHz.free (j:=5) (by simp);have zf6:=HHz.free (j:=6) (by simp);have zf7:=HHz.free (j:=7) (by simp);have zf8:=HHz.free (j:=8) (by simp);have zf9:=HHz.free (j:=9) (by simp);have zf10:=HHz.free (j:=10) (by simp);have zf11:=HHz.free (j:=11) (by simp);have HRR:Hid (HoldsL ((((((((((((W1.setCell ⟨w.heap.size+1,0,none⟩ (.int .i64 0)).setCell ⟨w.heap.size+1,1,none⟩ (.int .i64 0)).setCell ⟨w.heap.size+1,2,none⟩ (.int .i64 0)).setCell ⟨w.heap.size+1,3,none⟩ (.int .i64 0)).setCell ⟨w.heap.size+1,4,none⟩ (.string ⟨#[]⟩)).setCell ⟨w.heap.size+1,5,none⟩ (.string ⟨#[]⟩)).setCell ⟨w.heap.size+1,6,none⟩ (.bool false)).setCell ⟨w.heap.size+1,7,none⟩ (.bool false)).setCell ⟨w.heap.size+1,8,none⟩ (.int .i64 0)).setCell ⟨w.heap.size+1,9,none⟩ (.int .i64 0)).setCell ⟨w.heap.size+1,10,none⟩ (.string ⟨#[]⟩)).setCell ⟨w.heap.size+1,11,none⟩ (.int .i64 1)) (w.heap.size+1) [.int .i64 0,.int .i64 0,.int .i64 0,.int .i64 0,.string ⟨#[]⟩,.string ⟨#[]⟩,.bool false,.bool false,.int .i64 0,.int .i64 0,.string ⟨#[]⟩,.int .i64 1]):=((((((((((((HHz.set 0 (.int .i64 0)).set 1 (.int .i64 0)).set 2 (.int .i64 0)).set 3 (.int .i64 0)).set 4 (.string ⟨#[]⟩)).set 5 (.string ⟨#[]⟩)).set 6 (.bool false)).set 7 (.bool false)).set 8 (.int .i64 0)).set 9 (.int .i64 0)).set 10 (.string ⟨#[]⟩)).set 11 (.int .i64 1));have RB:Hid _:=((((((((((((S1.out.b.setCell (p:=⟨w.heap.size+1,0,none⟩) hlr (.int .i64 0)).setCell (p:=⟨w.heap.size+1,1,none⟩) hlr (.int .i64 0)).setCell (p:=⟨w.heap.size+1,2,none⟩) hlr (.int .i64 0)).setCell (p:=⟨w.heap.size+1,3,none⟩) hlr (.int .i64 0)).setCell (p:=⟨w.heap.size+1,4,none⟩) hlr (.string ⟨#[]⟩)).setCell (p:=⟨w.heap.size+1,5,none⟩) hlr (.string ⟨#[]⟩)).setCell (p:=⟨w.heap.size+1,6,none⟩) hlr (.bool false)).setCell (p:=⟨w.heap.size+1,7,none⟩) hlr (.bool false)).setCell (p:=⟨w.heap.size+1,8,none⟩) hlr (.int .i64 0)).setCell (p:=⟨w.heap.size+1,9,none⟩) hlr (.int .i64 0)).setCell (p:=⟨w.heap.size+1,10,none⟩) hlr (.string ⟨#[]⟩)).setCell (p:=⟨w.heap.size+1,11,none⟩) hlr (.int .i64 1));clear HHz;go_wp2_with fail
  exact bodyPost_ret (results_mid Try.results18 _ _ (w.heap.size+1) [.int .i64 0,.int .i64 0,.int .i64 0,.int .i64 0,.string ⟨#[]⟩,.string ⟨#[]⟩,.bool false,.bool false,.int .i64 0,.int .i64 0,.string ⟨#[]⟩,.int .i64 1] _ rfl HRR.out Try.underlying47 rfl (show (Try.prog.info? 47).map (·.size)=some 12 by kernel_rfl)) rfl (And.intro (by rw [X1.out,X2.out]; rfl) RB.out)
 have d2:((s.size:Int) != 16)=false:=by simp; omega
 have C2:Hid _:=c2;clear c2;go_wp2_with fail
 refine (HK.out _).mono ?_;rintro e W1 ⟨rfl,rfl⟩
 cases bk with
 | false =>
  go_upto_region 4 with fail
  obtain ⟨x1,x2⟩:=HA2.out c1 (.inr (.inr (.inl (by first | rfl | trivial))));have X1:Hid _:=x1;have X2:Hid _:=x2;clear x1 x2 HA1 HA2 HA3 HA4;have HHz:=S1.out.at (.tail _ (.head _));have z0:=HHz.cell (j:=0) rfl;have z1:=HHz.cell (j:=1) rfl;have z2:=HHz.cell (j:=2) rfl;have z3:=HHz.cell (j:=3) rfl;have z4:=HHz.cell (j:=4) rfl;have z5:=HHz.cell (j:=5) rfl;have z6:=HHz.cell (j:=6) rfl;have z7:=HHz.cell (j:=7) rfl;have z8:=HHz.cell (j:=8) rfl;have z9:=HHz.cell (j:=9) rfl;have z10:=HHz.cell (j:=10) rfl;have z11:=HHz.cell (j:=11) rfl;have zf0:=HHz.free (j:=0) (by simp);have zf1:=HHz.free (j:=1) (by simp);have zf2:=HHz.free (j:=2) (by simp);have zf3:=HHz.free (j:=3) (by simp);have zf4:=HHz.free (j:=4) (by simp);have zf5:=HHz.free (j:=5) (by simp);have zf6:=HHz.free (j:=6) (by simp);have zf7:=HHz.free (j:=7) (by simp);have zf8:=HHz.free (j:=8) (by simp);have zf9:=HHz.free (j:=9) (by simp);have zf10:=HHz.free (j:=10) (by simp);have zf11:=HHz.free (j:=11) (by simp);have HRR:Hid (HoldsL ((((((((((((W1.setCell ⟨w.heap.size+1,0,none⟩ (.int .i64 0)).setCell ⟨w.heap.size+1,1,none⟩ (.int .i64 0)).setCell ⟨w.heap.size+1,2,none⟩ (.int .i64 0)).setCell ⟨w.heap.size+1,3,none⟩ (.int .i64 0)).setCell ⟨w.heap.size+1,4,none⟩ (.string ⟨#[]⟩)).setCell ⟨w.heap.size+1,5,none⟩ (.string ⟨#[]⟩)).setCell ⟨w.heap.size+1,6,none⟩ (.bool false)).setCell ⟨w.heap.size+1,7,none⟩ (.bool false)).setCell ⟨w.heap.size+1,8,none⟩ (.int .i64 0)).setCell ⟨w.heap.size+1,9,none⟩ (.int .i64 0)).setCell ⟨w.heap.size+1,10,none⟩ (.string ⟨#[]⟩)).setCell ⟨w.heap.size+1,11,none⟩ (.int .i64 1)) (w.heap.size+1) [.int .i64 0,.int .i64 0,.int .i64 0,.int .i64 0,.string ⟨#[]⟩,.string ⟨#[]⟩,.bool false,.bool false,.int .i64 0,.int .i64 0,.string ⟨#[]⟩,.int .i64 1]):=((((((((((((HHz.set 0 (.int .i64 0)).set 1 (.int .i64 0)).set 2 (.int .i64 0)).set 3 (.int .i64 0)).set 4 (.string ⟨#[]⟩)).set 5 (.string ⟨#[]⟩)).set 6 (.bool false)).set 7 (.bool false)).set 8 (.int .i64 0)).set 9 (.int .i64 0)).set 10 (.string ⟨#[]⟩)).set 11 (.int .i64 1));have RB:Hid _:=((((((((((((S1.out.b.setCell (p:=⟨w.heap.size+1,0,none⟩) hlr (.int .i64 0)).setCell (p:=⟨w.heap.size+1,1,none⟩) hlr (.int .i64 0)).setCell (p:=⟨w.heap.size+1,2,none⟩) hlr (.int .i64 0)).setCell (p:=⟨w.heap.size+1,3,none⟩) hlr (.int .i64 0)).setCell (p:=⟨w.heap.size+1,4,none⟩) hlr (.string ⟨#[]⟩)).setCell (p:=⟨w.heap.size+1,5,none⟩) hlr (.string ⟨#[]⟩)).setCell (p:=⟨w.heap.size+1,6,none⟩) hlr (.bool false)).setCell (p:=⟨w.heap.size+1,7,none⟩) hlr (.bool false)).setCell (p:=⟨w.heap.size+1,8,none⟩) hlr (.int .i64 0)).setCell (p:=⟨w.heap.size+1,9,none⟩) hlr (.int .i64 0)).setCell (p:=⟨w.heap.size+1,10,none⟩) hlr (.string ⟨#[]⟩)).setCell (p:=⟨w.heap.size+1,11,none⟩) hlr (.int .i64 1));clear HHz;go_wp2_with fail
  exact bodyPost_ret (results_mid Try.results18 _ _ (w.heap.size+1) [.int .i64 0,.int .i64 0,.int .i64 0,.int .i64 0,.string ⟨#[]⟩,.string ⟨#[]⟩,.bool false,.bool false,.int .i64 0,.int .i64 0,.string ⟨#[]⟩,.int .i64 1] _ rfl HRR.out Try.underlying47 rfl (show (Try.prog.info? 47).map (·.size)=some 12 by kernel_rfl)) rfl (And.intro (by rw [X1.out,X2.out]; rfl) RB.out)
 | true =>
 go_wp2_with fail
 refine (HC.out _).mono ?_;rintro e W1 ⟨rfl,rfl⟩
 cases bc with
 | false =>
  go_upto_region 4 with fail
  obtain ⟨x1,x2⟩:=HA2.out c1 (.inr (.inr (.inr (.inl (by first | rfl | trivial)))));have X1:Hid _:=x1;have X2:Hid _:=x2;clear x1 x2 HA1 HA2 HA3 HA4;have HHz:=S1.out.at (.tail _ (.head _));have z0:=HHz.cell (j:=0) rfl;have z1:=HHz.cell (j:=1) rfl;have z2:=HHz.cell (j:=2) rfl;have z3:=HHz.cell (j:=3) rfl;have z4:=HHz.cell (j:=4) rfl;have z5:=HHz.cell (j:=5) rfl;have z6:=HHz.cell (j:=6) rfl;have z7:=HHz.cell (j:=7) rfl;have z8:=HHz.cell (j:=8) rfl;have z9:=HHz.cell (j:=9) rfl;have z10:=HHz.cell (j:=10) rfl;have z11:=HHz.cell (j:=11) rfl;have zf0:=HHz.free (j:=0) (by simp);have zf1:=HHz.free (j:=1) (by simp);have zf2:=HHz.free (j:=2) (by simp);have zf3:=HHz.free (j:=3) (by simp);have zf4:=HHz.free (j:=4) (by simp);have zf5:=HHz.free (j:=5) (by simp);have zf6:=HHz.free (j:=6) (by simp);have zf7:=HHz.free (j:=7) (by simp);have zf8:=HHz.free (j:=8) (by simp);have zf9:=HHz.free (j:=9) (by simp);have zf10:=HHz.free (j:=10) (by simp);have zf11:=HHz.free (j:=11) (by simp);have HRR:Hid (HoldsL ((((((((((((W1.setCell ⟨w.heap.size+1,0,none⟩ (.int .i64 0)).setCell ⟨w.heap.size+1,1,none⟩ (.int .i64 0)).setCell ⟨w.heap.size+1,2,none⟩ (.int .i64 0)).setCell ⟨w.heap.size+1,3,none⟩ (.int .i64 0)).setCell ⟨w.heap.size+1,4,none⟩ (.string ⟨#[]⟩)).setCell ⟨w.heap.size+1,5,none⟩ (.string ⟨#[]⟩)).setCell ⟨w.heap.size+1,6,none⟩ (.bool false)).setCell ⟨w.heap.size+1,7,none⟩ (.bool false)).setCell ⟨w.heap.size+1,8,none⟩ (.int .i64 0)).setCell ⟨w.heap.size+1,9,none⟩ (.int .i64 0)).setCell ⟨w.heap.size+1,10,none⟩ (.string ⟨#[]⟩)).setCell ⟨w.heap.size+1,11,none⟩ (.int .i64 1)) (w.heap.size+1) [.int .i64 0,.int .i64 0,.int .i64 0,.int .i64 0,.string ⟨#[]⟩,.string ⟨#[]⟩,.bool false,.bool false,.int .i64 0,.int .i64 0,.string ⟨#[]⟩,.int .i64 1]):=((((((((((((HHz.set 0 (.int .i64 0)).set 1 (.int .i64 0)).set 2 (.int .i64 0)).set 3 (.int .i64 0)).set 4 (.string ⟨#[]⟩)).set 5 (.string ⟨#[]⟩)).set 6 (.bool false)).set 7 (.bool false)).set 8 (.int .i64 0)).set 9 (.int .i64 0)).set 10 (.string ⟨#[]⟩)).set 11 (.int .i64 1));have RB:Hid _:=((((((((((((S1.out.b.setCell (p:=⟨w.heap.size+1,0,none⟩) hlr (.int .i64 0)).setCell (p:=⟨w.heap.size+1,1,none⟩) hlr (.int .i64 0)).setCell (p:=⟨w.heap.size+1,2,none⟩) hlr (.int .i64 0)).setCell (p:=⟨w.heap.size+1,3,none⟩) hlr (.int .i64 0)).setCell (p:=⟨w.heap.size+1,4,none⟩) hlr (.string ⟨#[]⟩)).setCell (p:=⟨w.heap.size+1,5,none⟩) hlr (.string ⟨#[]⟩)).setCell (p:=⟨w.heap.size+1,6,none⟩) hlr (.bool false)).setCell (p:=⟨w.heap.size+1,7,none⟩) hlr (.bool false)).setCell (p:=⟨w.heap.size+1,8,none⟩) hlr (.int .i64 0)).setCell (p:=⟨w.heap.size+1,9,none⟩) hlr (.int .i64 0)).setCell (p:=⟨w.heap.size+1,10,none⟩) hlr (.string ⟨#[]⟩)).setCell (p:=⟨w.heap.size+1,11,none⟩) hlr (.int .i64 1));clear HHz;go_wp2_with fail
  exact bodyPost_ret (results_mid Try.results18 _ _ (w.heap.size+1) [.int .i64 0,.int .i64 0,.int .i64 0,.int .i64 0,.string ⟨#[]⟩,.string ⟨#[]⟩,.bool false,.bool false,.int .i64 0,.int .i64 0,.string ⟨#[]⟩,.int .i64 1] _ rfl HRR.out Try.underlying47 rfl (show (Try.prog.info? 47).map (·.size)=some 12 by kernel_rfl)) rfl (And.intro (by rw [X1.out,X2.out]; rfl) RB.out)
 | true =>
 go_wp2_with fail
 refine (HN.out _).mono ?_;rintro e W1 ⟨rfl,rfl⟩
 cases bn with
 | false =>
  go_upto_region 4 with fail
  obtain ⟨x1,x2⟩:=HA2.out c1 (.inr (.inr (.inr (.inr (by first | rfl | trivial)))));have X1:Hid _:=x1;have X2:Hid _:=x2;clear x1 x2 HA1 HA2 HA3 HA4;have HHz:=S1.out.at (.tail _ (.head _));have z0:=HHz.cell (j:=0) rfl;have z1:=HHz.cell (j:=1) rfl;have z2:=HHz.cell (j:=2) rfl;have z3:=HHz.cell (j:=3) rfl;have z4:=HHz.cell (j:=4) rfl;have z5:=HHz.cell (j:=5) rfl;have z6:=HHz.cell (j:=6) rfl;have z7:=HHz.cell (j:=7) rfl;have z8:=HHz.cell (j:=8) rfl;have z9:=HHz.cell (j:=9) rfl;have z10:=HHz.cell (j:=10) rfl;have z11:=HHz.cell (j:=11) rfl;have zf0:=HHz.free (j:=0) (by simp);have zf1:=HHz.free (j:=1) (by simp);have zf2:=HHz.free (j:=2) (by simp);have zf3:=HHz.free (j:=3) (by simp);have zf4:=HHz.free (j:=4) (by simp);have zf5:=HHz.free (j:=5) (by simp);have zf6:=HHz.free (j:=6) (by simp);have zf7:=HHz.free (j:=7) (by simp);have zf8:=HHz.free (j:=8) (by simp);have zf9:=HHz.free (j:=9) (by simp);have zf10:=HHz.free (j:=10) (by simp);have zf11:=HHz.free (j:=11) (by simp);have HRR:Hid (HoldsL ((((((((((((W1.setCell ⟨w.heap.size+1,0,none⟩ (.int .i64 0)).setCell ⟨w.heap.size+1,1,none⟩ (.int .i64 0)).setCell ⟨w.heap.size+1,2,none⟩ (.int .i64 0)).setCell ⟨w.heap.size+1,3,none⟩ (.int .i64 0)).setCell ⟨w.heap.size+1,4,none⟩ (.string ⟨#[]⟩)).setCell ⟨w.heap.size+1,5,none⟩ (.string ⟨#[]⟩)).setCell ⟨w.heap.size+1,6,none⟩ (.bool false)).setCell ⟨w.heap.size+1,7,none⟩ (.bool false)).setCell ⟨w.heap.size+1,8,none⟩ (.int .i64 0)).setCell ⟨w.heap.size+1,9,none⟩ (.int .i64 0)).setCell ⟨w.heap.size+1,10,none⟩ (.string ⟨#[]⟩)).setCell ⟨w.heap.size+1,11,none⟩ (.int .i64 1)) (w.heap.size+1) [.int .i64 0,.int .i64 0,.int .i64 0,.int .i64 0,.string ⟨#[]⟩,.string ⟨#[]⟩,.bool false,.bool false,.int .i64 0,.int .i64 0,.string ⟨#[]⟩,.int .i64 1]):=((((((((((((HHz.set 0 (.int .i64 0)).set 1 (.int .i64 0)).set 2 (.int .i64 0)).set 3 (.int .i64 0)).set 4 (.string ⟨#[]⟩)).set 5 (.string ⟨#[]⟩)).set 6 (.bool false)).set 7 (.bool false)).set 8 (.int .i64 0)).set 9 (.int .i64 0)).set 10 (.string ⟨#[]⟩)).set 11 (.int .i64 1));have RB:Hid _:=((((((((((((S1.out.b.setCell (p:=⟨w.heap.size+1,0,none⟩) hlr (.int .i64 0)).setCell (p:=⟨w.heap.size+1,1,none⟩) hlr (.int .i64 0)).setCell (p:=⟨w.heap.size+1,2,none⟩) hlr (.int .i64 0)).setCell (p:=⟨w.heap.size+1,3,none⟩) hlr (.int .i64 0)).setCell (p:=⟨w.heap.size+1,4,none⟩) hlr (.string ⟨#[]⟩)).setCell (p:=⟨w.heap.size+1,5,none⟩) hlr (.string ⟨#[]⟩)).setCell (p:=⟨w.heap.size+1,6,none⟩) hlr (.bool false)).setCell (p:=⟨w.heap.size+1,7,none⟩) hlr (.bool false)).setCell (p:=⟨w.heap.size+1,8,none⟩) hlr (.int .i64 0)).setCell (p:=⟨w.heap.size+1,9,none⟩) hlr (.int .i64 0)).setCell (p:=⟨w.heap.size+1,10,none⟩) hlr (.string ⟨#[]⟩)).setCell (p:=⟨w.heap.size+1,11,none⟩) hlr (.int .i64 1));clear HHz;go_wp2_with fail
  exact bodyPost_ret (results_mid Try.results18 _ _ (w.heap.size+1) [.int .i64 0,.int .i64 0,.int .i64 0,.int .i64 0,.string ⟨#[]⟩,.string ⟨#[]⟩,.bool false,.bool false,.int .i64 0,.int .i64 0,.string ⟨#[]⟩,.int .i64 1] _ rfl HRR.out Try.underlying47 rfl (show (Try.prog.info? 47).map (·.size)=some 12 by kernel_rfl)) rfl (And.intro (by rw [X1.out,X2.out]; rfl) RB.out)
 | true =>
 clear HA1 HA2 HK HC HN;replace HA3:Hid _:=HA3.out (by first | rfl | trivial) C2.out (by first | rfl | trivial) (by first | rfl | trivial) (by first | rfl | trivial);replace HA4:Hid _:=HA4.out (by first | rfl | trivial) C2.out (by first | rfl | trivial) (by first | rfl | trivial) (by first | rfl | trivial);replace HRW:Hid _:=HRW.out (by first | rfl | trivial);obtain ⟨z1,z2,z3⟩:=HSZ.out (by first | rfl | trivial);replace HF:Hid _:=HF.out (by first | rfl | trivial);replace HT2:Hid _:=HT2.out (by first | rfl | trivial);obtain ⟨z5,z6⟩:=HBZ.out (by first | rfl | trivial);replace HSM:Hid _:=HSM.out (by first | rfl | trivial) C2.out;replace HPT:Hid _:=HPT.out (by first | rfl | trivial);have hk:=hkr.out (by first | rfl | trivial);have hc:=hcr.out (by first | rfl | trivial);clear HSZ HBZ hkr hcr;have HHk:=S1.out.at (.head _);have k0:=HHk.cell (j:=0) rfl;have k1:=HHk.cell (j:=1) rfl;have k2:=HHk.cell (j:=2) rfl;have k3:=HHk.cell (j:=3) rfl;have k4:=HHk.cell (j:=4) rfl;have k5:=HHk.cell (j:=5) rfl;have k6:=HHk.cell (j:=6) rfl;have k7:=HHk.cell (j:=7) rfl;have k8:=HHk.cell (j:=8) rfl;have k9:=HHk.cell (j:=9) rfl;have k10:=HHk.cell (j:=10) rfl;clear HHk;obtain ⟨e1,he1⟩ : ∃ e1,e1=(decide (next=58)&&(decide (data.size=0)||decide (bt data 0 < 128))):=⟨_,rfl⟩;rw [← he1] at HDU;have HE1:Hid _:=he1;clear he1;have hbt:=get_bt data;go_upto_region 5 with fail
 go_cut [11] (fun v wx=>v=.bool e1∧wx=W1)
 case first =>
  by_cases a1:next=58
  case neg =>
   have d3:(next==58)=false:=by simpa using a1
   have HX:Hid (e1=false):=by unfold Hid; rw [HE1.out,decide_eq_false a1]; rfl
   clear HE1 a1;go_wp2_with fail
   go_meet;exact ⟨by rw [HX.out],rfl⟩
  have d3:(next==58)=true:=by simpa using a1
  by_cases a2:data.size=0
  case pos =>
   have d4:((data.size:Int)==0)=true:=by rw [beq_iff_eq]; omega
   have HX:Hid (e1=true):=by unfold Hid; rw [HE1.out,decide_eq_true a1,decide_eq_true a2]; rfl
   clear HE1 a1 a2;go_wp2_with fail
   go_meet;exact ⟨by rw [HX.out],rfl⟩
  have d4:((data.size:Int)==0)=false:=by rw [beq_eq_false_iff_ne]; omega
  have d5:(0:Int) < data.size:=by omega
  have d6:0 < data.size:=by omega
  by_cases a3:bt data 0 < 128
  case pos =>
   have d7:decide (bt data 0 < 128)=true:=decide_eq_true a3;have HX:Hid (e1=true):=by unfold Hid; rw [HE1.out,decide_eq_true a1,decide_eq_false a2,decide_eq_true a3]; rfl
   clear HE1 a1 a2 a3;go_wp2_with fail
   go_meet;exact ⟨by rw [HX.out],rfl⟩
  have d7:decide (bt data 0 < 128)=false:=decide_eq_false a3;have HX:Hid (e1=false):=by unfold Hid; rw [HE1.out,decide_eq_true a1,decide_eq_false a2,decide_eq_false a3]; rfl
  clear HE1 a1 a2 a3;go_wp2_with fail
  go_meet;exact ⟨by rw [HX.out],rfl⟩
 case rest =>
 obtain ⟨rfl,rfl⟩:=hcut;generalize wc=W1 at *;clear HE1 hbt;go_upto_region 6 with fail
 go_cut [74] (fun v wx=>v=.bool du∧Bxs w [(w.heap.size,[.int .i64 cls,.int .i64 flow,.int .i64 next,.int .i64 hops,.string src,.string dst,.bool piece,.bool more,.int .i64 off,.int .i64 id,.string data]),(w.heap.size+1,[.int .i64 0,.int .i64 0,.int .i64 0,.int .i64 0,.string ⟨#[]⟩,.string ⟨#[]⟩,.bool false,.bool false,.int .i64 0,.int .i64 0,.string ⟨#[]⟩,.int .i64 0])] wx)
 case first =>
  rename_i J K2 hJ hK2;have HCP:Hid (∀ wy,Below W1.drew.heap.size W1.drew wy→_):=fun wy hy=>S1.out.kept ((Below.refl _ _).drew.trans hy)
  have hbt:=get_bt src;have i0:(0:Int) < src.size:=by omega
  have i1:0 < src.size:=by omega
  clear S1 hun HA3 HA4 HRW HF HT2 HSM HPT HT3 HSR HBA k0 k1 k2 k3 k4 k5 k6 k7 k8 k9 k10;by_cases a1:off=0
  case neg =>
   have d3:(off != 0)=true:=by simp [a1]
   have HX:Hid (du=true):=by unfold Hid; rw [HDU.out,decide_eq_false a1]; rfl
   clear HDU a1;refine wp_region_growH [56,57,58,59,60,61,62,63,64,65,66,67,68,69,70,71,72,73,74] (by kernel_rfl) (by kernel_rfl) ?_;refine GCh.val (n:=0) (fun v=>[IsV v]) (fun _=>rfl) rfl ?_;apply Exists.intro;refine And.intro ?_ ?_
   ·intro K' a wy ho hd hb hK;rw [if_pos (wanted_none rfl)];have o6:=ho 6 (by decide);simp [slot] at o6;clear hd ho;go_simp;try go_bits
    exact hK _ _ rfl (Below.refl _ _)
   refine GCh.val (n:=1) (fun v=>[_,IsV v]) (fun _=>rfl) rfl ?_;apply Exists.intro;refine And.intro ?_ ?_
   ·intro K' a wy ho hd hb hK;rw [if_pos (wanted_none rfl)];have q0:=hd ⟨0,.data⟩ (by simp) rfl;simp [rAt,IsV,slot] at q0;clear hd ho;have hst:=HCP.out wy hb;have HHk:=hst.at (.head _);have k0:=HHk.cell (j:=0) rfl;have k1:=HHk.cell (j:=1) rfl;have k2:=HHk.cell (j:=2) rfl;have k3:=HHk.cell (j:=3) rfl;have k4:=HHk.cell (j:=4) rfl;have k5:=HHk.cell (j:=5) rfl;have k6:=HHk.cell (j:=6) rfl;have k7:=HHk.cell (j:=7) rfl;have k8:=HHk.cell (j:=8) rfl;have k9:=HHk.cell (j:=9) rfl;have k10:=HHk.cell (j:=10) rfl;clear HHk;clear hst;go_simp;try go_bits
    exact hK _ _ rfl (Below.refl _ _)
   refine GCh.val (n:=2) (fun v=>[_,_,IsV v]) (fun _=>rfl) rfl ?_;apply Exists.intro;refine And.intro ?_ ?_
   ·intro K' a wy ho hd hb hK;rw [if_pos (wanted_none rfl)];have q1:=hd ⟨1,.data⟩ (by simp) rfl;simp [rAt,IsV,slot] at q1;clear hd ho;go_simp;try go_bits
    exact hK _ _ rfl (Below.refl _ _)
   refine GCh.val (n:=3) (fun v=>[_,_,_,IsV v]) (fun _=>rfl) rfl ?_;apply Exists.intro;refine And.intro ?_ ?_
   ·intro K' a wy ho hd hb hK;rw [if_pos (wanted_none rfl)];have q2:=hd ⟨2,.data⟩ (by simp) rfl;simp [rAt,IsV,slot] at q2;clear hd ho;go_simp;try go_bits
    exact hK _ _ rfl (Below.refl _ _)
   refine GCh.val (n:=4) (fun v=>[_,_,_,_,IsV v]) (fun _=>rfl) rfl ?_;apply Exists.intro;refine And.intro ?_ ?_
   ·intro K' a wy ho hd hb hK;have hgs:IsV (.bool true) (slot a 59) wy:=hd ⟨3,.guard⟩ (by simp) rfl;rw [wanted_of (j:=3) (d:=59) (b:=true) (want:=false) (hg:=rfl) (ho:=rfl) (hd:=rfl) (hs:=hgs)];rw [if_neg (by decide)];exact hK undef _ rfl (Below.refl _ _)
   refine GCh.val (n:=5) (fun v=>[_,_,_,_,_,IsV v]) (fun _=>rfl) rfl ?_;apply Exists.intro;refine And.intro ?_ ?_
   ·intro K' a wy ho hd hb hK;have hgs:IsV (.bool true) (slot a 59) wy:=hd ⟨3,.guard⟩ (by simp) rfl;rw [wanted_of (j:=3) (d:=59) (b:=true) (want:=false) (hg:=rfl) (ho:=rfl) (hd:=rfl) (hs:=hgs)];rw [if_neg (by decide)];exact hK undef _ rfl (Below.refl _ _)
   refine GCh.val (n:=6) (fun v=>[_,_,_,_,_,_,IsV v]) (fun _=>rfl) rfl ?_;apply Exists.intro;refine And.intro ?_ ?_
   ·intro K' a wy ho hd hb hK;have hgs:IsV (.bool true) (slot a 59) wy:=hd ⟨3,.guard⟩ (by simp) rfl;rw [wanted_of (j:=3) (d:=59) (b:=true) (want:=false) (hg:=rfl) (ho:=rfl) (hd:=rfl) (hs:=hgs)];rw [if_neg (by decide)];exact hK undef _ rfl (Below.refl _ _)
   refine GCh.val (n:=7) (fun v=>[_,_,_,_,_,_,_,IsV v]) (fun _=>rfl) rfl ?_;apply Exists.intro;refine And.intro ?_ ?_
   ·intro K' a wy ho hd hb hK;have hgs:IsV (.bool true) (slot a 59) wy:=hd ⟨3,.guard⟩ (by simp) rfl;rw [wanted_of (j:=3) (d:=59) (b:=true) (want:=false) (hg:=rfl) (ho:=rfl) (hd:=rfl) (hs:=hgs)];rw [if_neg (by decide)];exact hK undef _ rfl (Below.refl _ _)
   refine GCh.val (n:=8) (fun v=>[_,_,_,_,_,_,_,_,IsV v]) (fun _=>rfl) rfl ?_;apply Exists.intro;refine And.intro ?_ ?_
   ·intro K' a wy ho hd hb hK;have hgs:IsV (.bool true) (slot a 59) wy:=hd ⟨3,.guard⟩ (by simp) rfl;rw [wanted_of (j:=3) (d:=59) (b:=true) (want:=false) (hg:=rfl) (ho:=rfl) (hd:=rfl) (hs:=hgs)];rw [if_neg (by decide)];exact hK undef _ rfl (Below.refl _ _)
   refine GCh.val (n:=9) (fun v=>[_,_,_,_,_,_,_,_,_,IsV v]) (fun _=>rfl) rfl ?_;apply Exists.intro;refine And.intro ?_ ?_
   ·intro K' a wy ho hd hb hK;rw [if_pos (wanted_none rfl)];have q3:=hd ⟨3,.data⟩ (by simp) rfl;simp [rAt,IsV,slot] at q3;have q8:=hd ⟨8,.data⟩ (by simp) rfl;simp [rAt,IsV,slot] at q8;clear hd ho;go_simp;try go_bits
    exact hK _ _ rfl (Below.refl _ _)
   refine GCh.val (n:=10) (fun v=>[_,_,_,_,_,_,_,_,_,_,IsV v]) (fun _=>rfl) rfl ?_;apply Exists.intro;refine And.intro ?_ ?_
   ·intro K' a wy ho hd hb hK;rw [if_pos (wanted_none rfl)];have q9:=hd ⟨9,.data⟩ (by simp) rfl;simp [rAt,IsV,slot] at q9;clear hd ho;go_simp;try go_bits
    exact hK _ _ rfl (Below.refl _ _)
   refine GCh.val (n:=11) (fun v=>[_,_,_,_,_,_,_,_,_,_,_,IsV v]) (fun _=>rfl) rfl ?_;apply Exists.intro;refine And.intro ?_ ?_
   ·intro K' a wy ho hd hb hK;have hgs:IsV (.bool true) (slot a 66) wy:=hd ⟨10,.guard⟩ (by simp) rfl;rw [wanted_of (j:=10) (d:=66) (b:=true) (want:=false) (hg:=rfl) (ho:=rfl) (hd:=rfl) (hs:=hgs)];rw [if_neg (by decide)];exact hK undef _ rfl (Below.refl _ _)
   refine GCh.val (n:=12) (fun v=>[_,_,_,_,_,_,_,_,_,_,_,_,IsV v]) (fun _=>rfl) rfl ?_;apply Exists.intro;refine And.intro ?_ ?_
   ·intro K' a wy ho hd hb hK;have hgs:IsV (.bool true) (slot a 66) wy:=hd ⟨10,.guard⟩ (by simp) rfl;rw [wanted_of (j:=10) (d:=66) (b:=true) (want:=false) (hg:=rfl) (ho:=rfl) (hd:=rfl) (hs:=hgs)];rw [if_neg (by decide)];exact hK undef _ rfl (Below.refl _ _)
   refine GCh.val (n:=13) (fun v=>[_,_,_,_,_,_,_,_,_,_,_,_,_,IsV v]) (fun _=>rfl) rfl ?_;apply Exists.intro;refine And.intro ?_ ?_
   ·intro K' a wy ho hd hb hK;have hgs:IsV (.bool true) (slot a 66) wy:=hd ⟨10,.guard⟩ (by simp) rfl;rw [wanted_of (j:=10) (d:=66) (b:=true) (want:=false) (hg:=rfl) (ho:=rfl) (hd:=rfl) (hs:=hgs)];rw [if_neg (by decide)];exact hK undef _ rfl (Below.refl _ _)
   refine GCh.val (n:=14) (fun v=>[_,_,_,_,_,_,_,_,_,_,_,_,_,_,IsV v]) (fun _=>rfl) rfl ?_;apply Exists.intro;refine And.intro ?_ ?_
   ·intro K' a wy ho hd hb hK;have hgs:IsV (.bool true) (slot a 66) wy:=hd ⟨10,.guard⟩ (by simp) rfl;rw [wanted_of (j:=10) (d:=66) (b:=true) (want:=false) (hg:=rfl) (ho:=rfl) (hd:=rfl) (hs:=hgs)];rw [if_neg (by decide)];exact hK undef _ rfl (Below.refl _ _)
   refine GCh.val (n:=15) (fun v=>[_,_,_,_,_,_,_,_,_,_,_,_,_,_,_,IsV v]) (fun _=>rfl) rfl ?_;apply Exists.intro;refine And.intro ?_ ?_
   ·intro K' a wy ho hd hb hK;rw [if_pos (wanted_none rfl)];have q10:=hd ⟨10,.data⟩ (by simp) rfl;simp [rAt,IsV,slot] at q10;have q14:=hd ⟨14,.data⟩ (by simp) rfl;simp [rAt,IsV,slot] at q14;clear hd ho;go_simp;try go_bits
    exact hK _ _ rfl (Below.refl _ _)
   refine GCh.val (n:=16) (fun v=>[_,_,_,_,_,_,_,_,_,_,_,_,_,_,_,_,IsV v]) (fun _=>rfl) rfl ?_;apply Exists.intro;refine And.intro ?_ ?_
   ·intro K' a wy ho hd hb hK;rw [if_pos (wanted_none rfl)];have q15:=hd ⟨15,.data⟩ (by simp) rfl;simp [rAt,IsV,slot] at q15;clear hd ho;go_simp;try go_bits
    exact hK _ _ rfl (Below.refl _ _)
   refine GCh.val (n:=17) (fun v=>[_,_,_,_,_,_,_,_,_,_,_,_,_,_,_,_,_,IsV v]) (fun _=>rfl) rfl ?_;apply Exists.intro;refine And.intro ?_ ?_
   ·intro K' a wy ho hd hb hK;have hgs:IsV (.bool true) (slot a 72) wy:=hd ⟨16,.guard⟩ (by simp) rfl;rw [wanted_of (j:=16) (d:=72) (b:=true) (want:=false) (hg:=rfl) (ho:=rfl) (hd:=rfl) (hs:=hgs)];rw [if_neg (by decide)];exact hK undef _ rfl (Below.refl _ _)
   refine GCh.val (n:=18) (fun v=>[_,_,_,_,_,_,_,_,_,_,_,_,_,_,_,_,_,_,IsV v]) (fun _=>rfl) rfl ?_;apply Exists.intro;refine And.intro ?_ ?_
   ·intro K' a wy ho hd hb hK;rw [if_pos (wanted_none rfl)];have q16:=hd ⟨16,.data⟩ (by simp) rfl;simp [rAt,IsV,slot] at q16;have q17:=hd ⟨17,.data⟩ (by simp) rfl;simp [rAt,IsV,slot] at q17;clear hd ho;go_simp;try go_bits
    exact hK _ _ rfl (Below.refl _ _)
   intro X wz hR hz;obtain ⟨x0,x1,x2,x3,x4,x5,x6,x7,x8,x9,x10,x11,x12,x13,x14,x15,x16,x17,x18,-⟩:=hR;simp only [IsV] at x0 x1 x2 x3 x4 x5 x6 x7 x8 x9 x10 x11 x12 x13 x14 x15 x16 x17 x18;simp only [putsFrom,x0,x1,x2,x3,x4,x5,x6,x7,x8,x9,x10,x11,x12,x13,x14,x15,x16,x17,x18];clear x0 x1 x2 x3 x4 x5 x6 x7 x8 x9 x10 x11 x12 x13 x14 x15 x16 x17 x18;have HF9:Hid (Bxs w [(w.heap.size,[.int .i64 cls,.int .i64 flow,.int .i64 next,.int .i64 hops,.string src,.string dst,.bool piece,.bool more,.int .i64 off,.int .i64 id,.string data]),(w.heap.size+1,[.int .i64 0,.int .i64 0,.int .i64 0,.int .i64 0,.string ⟨#[]⟩,.string ⟨#[]⟩,.bool false,.bool false,.int .i64 0,.int .i64 0,.string ⟨#[]⟩,.int .i64 0])] wz):=HCP.out wz hz;clear HCP;go_simp;refine hK2 _ _ (hJ _ _ ?_);(repeat apply Exists.intro)
   exact ⟨⟨by rw [HX.out],HF9.out⟩,rfl⟩
  have d3:(off != 0)=false:=by simp [a1]
  cases hs0:(src.toList==z16) with
  | true =>
   have HX:Hid (du=true):=by unfold Hid; rw [HDU.out,decide_eq_true a1,hs0]; rfl
   have d4:(src.toList==(⟨#[0,0,0,0,0,0,0,0,0,0,0,0,0,0,0,0]⟩ : ByteArray).toList)=true:=by rw [ByteArray.toList_eq (⟨#[0,0,0,0,0,0,0,0,0,0,0,0,0,0,0,0]⟩ : ByteArray)]; exact hs0
   unfold z16 at hs0;clear HDU a1;refine wp_region_growH [56,57,58,59,60,61,62,63,64,65,66,67,68,69,70,71,72,73,74] (by kernel_rfl) (by kernel_rfl) ?_;refine GCh.val (n:=0) (fun v=>[IsV v]) (fun _=>rfl) rfl ?_;apply Exists.intro;refine And.intro ?_ ?_
   ·intro K' a wy ho hd hb hK;rw [if_pos (wanted_none rfl)];have o6:=ho 6 (by decide);simp [slot] at o6;clear hd ho;go_simp;try go_bits
    exact hK _ _ rfl (Below.refl _ _)
   refine GCh.val (n:=1) (fun v=>[_,IsV v]) (fun _=>rfl) rfl ?_;apply Exists.intro;refine And.intro ?_ ?_
   ·intro K' a wy ho hd hb hK;rw [if_pos (wanted_none rfl)];have q0:=hd ⟨0,.data⟩ (by simp) rfl;simp [rAt,IsV,slot] at q0;clear hd ho;have hst:=HCP.out wy hb;have HHk:=hst.at (.head _);have k0:=HHk.cell (j:=0) rfl;have k1:=HHk.cell (j:=1) rfl;have k2:=HHk.cell (j:=2) rfl;have k3:=HHk.cell (j:=3) rfl;have k4:=HHk.cell (j:=4) rfl;have k5:=HHk.cell (j:=5) rfl;have k6:=HHk.cell (j:=6) rfl;have k7:=HHk.cell (j:=7) rfl;have k8:=HHk.cell (j:=8) rfl;have k9:=HHk.cell (j:=9) rfl;have k10:=HHk.cell (j:=10) rfl;clear HHk;clear hst;go_simp;try go_bits
    exact hK _ _ rfl (Below.refl _ _)
   refine GCh.val (n:=2) (fun v=>[_,_,IsV v]) (fun _=>rfl) rfl ?_;apply Exists.intro;refine And.intro ?_ ?_
   ·intro K' a wy ho hd hb hK;rw [if_pos (wanted_none rfl)];have q1:=hd ⟨1,.data⟩ (by simp) rfl;simp [rAt,IsV,slot] at q1;clear hd ho;go_simp;try go_bits
    exact hK _ _ rfl (Below.refl _ _)
   refine GCh.val (n:=3) (fun v=>[_,_,_,IsV v]) (fun _=>rfl) rfl ?_;apply Exists.intro;refine And.intro ?_ ?_
   ·intro K' a wy ho hd hb hK;rw [if_pos (wanted_none rfl)];have q2:=hd ⟨2,.data⟩ (by simp) rfl;simp [rAt,IsV,slot] at q2;clear hd ho;go_simp;try go_bits
    exact hK _ _ rfl (Below.refl _ _)
   refine GCh.val (n:=4) (fun v=>[_,_,_,_,IsV v]) (fun _=>rfl) rfl ?_;apply Exists.intro;refine And.intro ?_ ?_
   ·intro K' a wy ho hd hb hK;have hgs:IsV (.bool false) (slot a 59) wy:=hd ⟨3,.guard⟩ (by simp) rfl;rw [wanted_of (j:=3) (d:=59) (b:=false) (want:=false) (hg:=rfl) (ho:=rfl) (hd:=rfl) (hs:=hgs)];rw [if_pos (by decide)];clear hgs;have o6:=ho 6 (by decide);simp [slot] at o6;clear hd ho;go_simp;try go_bits
    exact hK _ _ rfl (Below.refl _ _)
   refine GCh.val (n:=5) (fun v=>[_,_,_,_,_,IsV v]) (fun _=>rfl) rfl ?_;apply Exists.intro;refine And.intro ?_ ?_
   ·intro K' a wy ho hd hb hK;have hgs:IsV (.bool false) (slot a 59) wy:=hd ⟨3,.guard⟩ (by simp) rfl;rw [wanted_of (j:=3) (d:=59) (b:=false) (want:=false) (hg:=rfl) (ho:=rfl) (hd:=rfl) (hs:=hgs)];rw [if_pos (by decide)];clear hgs;have q4:=hd ⟨4,.data⟩ (by simp) rfl;simp [rAt,IsV,slot] at q4;clear hd ho;have hst:=HCP.out wy hb;have HHk:=hst.at (.head _);have k0:=HHk.cell (j:=0) rfl;have k1:=HHk.cell (j:=1) rfl;have k2:=HHk.cell (j:=2) rfl;have k3:=HHk.cell (j:=3) rfl;have k4:=HHk.cell (j:=4) rfl;have k5:=HHk.cell (j:=5) rfl;have k6:=HHk.cell (j:=6) rfl;have k7:=HHk.cell (j:=7) rfl;have k8:=HHk.cell (j:=8) rfl;have k9:=HHk.cell (j:=9) rfl;have k10:=HHk.cell (j:=10) rfl;clear HHk;clear hst;go_simp;try go_bits
    exact hK _ _ rfl (Below.refl _ _)
   refine GCh.rel (n:=6) (IsZ16) (stable_isZ16) [_,_,_,_,_,_,IsZ16] rfl rfl ?_ ?_
   ·intro K' a wy ho hd hb hK;have hgs:IsV (.bool false) (slot a 59) wy:=hd ⟨3,.guard⟩ (by simp) rfl;rw [wanted_of (j:=3) (d:=59) (b:=false) (want:=false) (hg:=rfl) (ho:=rfl) (hd:=rfl) (hs:=hgs)];rw [if_pos (by decide)];clear hgs;clear hd ho;go_simp;exact hK _ _ ⟨wy.heap.size,rfl,made16 wy⟩ ((Below.refl _ _).alloc (Nat.le_refl _) _)
   refine GCh.val (n:=7) (fun v=>[_,_,_,_,_,_,_,IsV v]) (fun _=>rfl) rfl ?_;apply Exists.intro;refine And.intro ?_ ?_
   ·intro K' a wy ho hd hb hK;have hgs:IsV (.bool false) (slot a 59) wy:=hd ⟨3,.guard⟩ (by simp) rfl;rw [wanted_of (j:=3) (d:=59) (b:=false) (want:=false) (hg:=rfl) (ho:=rfl) (hd:=rfl) (hs:=hgs)];rw [if_pos (by decide)];clear hgs;have hr:IsZ16 (slot a 62) wy:=hd ⟨6,.data⟩ (by simp) rfl;obtain ⟨g3,e3,e5⟩:=hr;simp [slot] at e3;have hcv:=z16_conv e5;clear hd ho;go_simp;try go_bits
    exact hK _ _ rfl (Below.refl _ _)
   refine GCh.val (n:=8) (fun v=>[_,_,_,_,_,_,_,_,IsV v]) (fun _=>rfl) rfl ?_;apply Exists.intro;refine And.intro ?_ ?_
   ·intro K' a wy ho hd hb hK;have hgs:IsV (.bool false) (slot a 59) wy:=hd ⟨3,.guard⟩ (by simp) rfl;rw [wanted_of (j:=3) (d:=59) (b:=false) (want:=false) (hg:=rfl) (ho:=rfl) (hd:=rfl) (hs:=hgs)];rw [if_pos (by decide)];clear hgs;have q5:=hd ⟨5,.data⟩ (by simp) rfl;simp [rAt,IsV,slot] at q5;have q7:=hd ⟨7,.data⟩ (by simp) rfl;simp [rAt,IsV,slot] at q7;clear hd ho;go_simp;try go_bits
    exact hK _ _ rfl (Below.refl _ _)
   refine GCh.val (n:=9) (fun v=>[_,_,_,_,_,_,_,_,_,IsV v]) (fun _=>rfl) rfl ?_;apply Exists.intro;refine And.intro ?_ ?_
   ·intro K' a wy ho hd hb hK;rw [if_pos (wanted_none rfl)];have q3:=hd ⟨3,.data⟩ (by simp) rfl;simp [rAt,IsV,slot] at q3;have q8:=hd ⟨8,.data⟩ (by simp) rfl;simp [rAt,IsV,slot] at q8;clear hd ho;go_simp;try go_bits
    exact hK _ _ rfl (Below.refl _ _)
   refine GCh.val (n:=10) (fun v=>[_,_,_,_,_,_,_,_,_,_,IsV v]) (fun _=>rfl) rfl ?_;apply Exists.intro;refine And.intro ?_ ?_
   ·intro K' a wy ho hd hb hK;rw [if_pos (wanted_none rfl)];have q9:=hd ⟨9,.data⟩ (by simp) rfl;simp [rAt,IsV,slot] at q9;clear hd ho;go_simp;try go_bits
    exact hK _ _ rfl (Below.refl _ _)
   refine GCh.val (n:=11) (fun v=>[_,_,_,_,_,_,_,_,_,_,_,IsV v]) (fun _=>rfl) rfl ?_;apply Exists.intro;refine And.intro ?_ ?_
   ·intro K' a wy ho hd hb hK;have hgs:IsV (.bool true) (slot a 66) wy:=hd ⟨10,.guard⟩ (by simp) rfl;rw [wanted_of (j:=10) (d:=66) (b:=true) (want:=false) (hg:=rfl) (ho:=rfl) (hd:=rfl) (hs:=hgs)];rw [if_neg (by decide)];exact hK undef _ rfl (Below.refl _ _)
   refine GCh.val (n:=12) (fun v=>[_,_,_,_,_,_,_,_,_,_,_,_,IsV v]) (fun _=>rfl) rfl ?_;apply Exists.intro;refine And.intro ?_ ?_
   ·intro K' a wy ho hd hb hK;have hgs:IsV (.bool true) (slot a 66) wy:=hd ⟨10,.guard⟩ (by simp) rfl;rw [wanted_of (j:=10) (d:=66) (b:=true) (want:=false) (hg:=rfl) (ho:=rfl) (hd:=rfl) (hs:=hgs)];rw [if_neg (by decide)];exact hK undef _ rfl (Below.refl _ _)
   refine GCh.val (n:=13) (fun v=>[_,_,_,_,_,_,_,_,_,_,_,_,_,IsV v]) (fun _=>rfl) rfl ?_;apply Exists.intro;refine And.intro ?_ ?_
   ·intro K' a wy ho hd hb hK;have hgs:IsV (.bool true) (slot a 66) wy:=hd ⟨10,.guard⟩ (by simp) rfl;rw [wanted_of (j:=10) (d:=66) (b:=true) (want:=false) (hg:=rfl) (ho:=rfl) (hd:=rfl) (hs:=hgs)];rw [if_neg (by decide)];exact hK undef _ rfl (Below.refl _ _)
   refine GCh.val (n:=14) (fun v=>[_,_,_,_,_,_,_,_,_,_,_,_,_,_,IsV v]) (fun _=>rfl) rfl ?_;apply Exists.intro;refine And.intro ?_ ?_
   ·intro K' a wy ho hd hb hK;have hgs:IsV (.bool true) (slot a 66) wy:=hd ⟨10,.guard⟩ (by simp) rfl;rw [wanted_of (j:=10) (d:=66) (b:=true) (want:=false) (hg:=rfl) (ho:=rfl) (hd:=rfl) (hs:=hgs)];rw [if_neg (by decide)];exact hK undef _ rfl (Below.refl _ _)
   refine GCh.val (n:=15) (fun v=>[_,_,_,_,_,_,_,_,_,_,_,_,_,_,_,IsV v]) (fun _=>rfl) rfl ?_;apply Exists.intro;refine And.intro ?_ ?_
   ·intro K' a wy ho hd hb hK;rw [if_pos (wanted_none rfl)];have q10:=hd ⟨10,.data⟩ (by simp) rfl;simp [rAt,IsV,slot] at q10;have q14:=hd ⟨14,.data⟩ (by simp) rfl;simp [rAt,IsV,slot] at q14;clear hd ho;go_simp;try go_bits
    exact hK _ _ rfl (Below.refl _ _)
   refine GCh.val (n:=16) (fun v=>[_,_,_,_,_,_,_,_,_,_,_,_,_,_,_,_,IsV v]) (fun _=>rfl) rfl ?_;apply Exists.intro;refine And.intro ?_ ?_
   ·intro K' a wy ho hd hb hK;rw [if_pos (wanted_none rfl)];have q15:=hd ⟨15,.data⟩ (by simp) rfl;simp [rAt,IsV,slot] at q15;clear hd ho;go_simp;try go_bits
    exact hK _ _ rfl (Below.refl _ _)
   refine GCh.val (n:=17) (fun v=>[_,_,_,_,_,_,_,_,_,_,_,_,_,_,_,_,_,IsV v]) (fun _=>rfl) rfl ?_;apply Exists.intro;refine And.intro ?_ ?_
   ·intro K' a wy ho hd hb hK;have hgs:IsV (.bool true) (slot a 72) wy:=hd ⟨16,.guard⟩ (by simp) rfl;rw [wanted_of (j:=16) (d:=72) (b:=true) (want:=false) (hg:=rfl) (ho:=rfl) (hd:=rfl) (hs:=hgs)];rw [if_neg (by decide)];exact hK undef _ rfl (Below.refl _ _)
   refine GCh.val (n:=18) (fun v=>[_,_,_,_,_,_,_,_,_,_,_,_,_,_,_,_,_,_,IsV v]) (fun _=>rfl) rfl ?_;apply Exists.intro;refine And.intro ?_ ?_
   ·intro K' a wy ho hd hb hK;rw [if_pos (wanted_none rfl)];have q16:=hd ⟨16,.data⟩ (by simp) rfl;simp [rAt,IsV,slot] at q16;have q17:=hd ⟨17,.data⟩ (by simp) rfl;simp [rAt,IsV,slot] at q17;clear hd ho;go_simp;try go_bits
    exact hK _ _ rfl (Below.refl _ _)
   intro X wz hR hz;obtain ⟨x0,x1,x2,x3,x4,x5,x6,x7,x8,x9,x10,x11,x12,x13,x14,x15,x16,x17,x18,-⟩:=hR;obtain ⟨g3,e3,-⟩:=x6;simp only [IsV] at x0 x1 x2 x3 x4 x5 x7 x8 x9 x10 x11 x12 x13 x14 x15 x16 x17 x18;simp only [putsFrom,x0,x1,x2,x3,x4,x5,e3,x7,x8,x9,x10,x11,x12,x13,x14,x15,x16,x17,x18];clear x0 x1 x2 x3 x4 x5 x7 x8 x9 x10 x11 x12 x13 x14 x15 x16 x17 x18;have HF9:Hid (Bxs w [(w.heap.size,[.int .i64 cls,.int .i64 flow,.int .i64 next,.int .i64 hops,.string src,.string dst,.bool piece,.bool more,.int .i64 off,.int .i64 id,.string data]),(w.heap.size+1,[.int .i64 0,.int .i64 0,.int .i64 0,.int .i64 0,.string ⟨#[]⟩,.string ⟨#[]⟩,.bool false,.bool false,.int .i64 0,.int .i64 0,.string ⟨#[]⟩,.int .i64 0])] wz):=HCP.out wz hz;clear HCP;go_simp;refine hK2 _ _ (hJ _ _ ?_);(repeat apply Exists.intro)
   exact ⟨⟨by rw [HX.out],HF9.out⟩,rfl⟩
  | false =>
  have d4:(src.toList==(⟨#[0,0,0,0,0,0,0,0,0,0,0,0,0,0,0,0]⟩ : ByteArray).toList)=false:=by rw [ByteArray.toList_eq (⟨#[0,0,0,0,0,0,0,0,0,0,0,0,0,0,0,0]⟩ : ByteArray)]; exact hs0
  by_cases a2:bt src 0=255
  case pos =>
   have HX:Hid (du=true):=by unfold Hid; rw [HDU.out,decide_eq_true a1,hs0,decide_eq_true a2]; rfl
   have d5:(bt src 0==255)=true:=by simp [a2]
   unfold z16 at hs0;clear HDU a1 a2;refine wp_region_growH [56,57,58,59,60,61,62,63,64,65,66,67,68,69,70,71,72,73,74] (by kernel_rfl) (by kernel_rfl) ?_;refine GCh.val (n:=0) (fun v=>[IsV v]) (fun _=>rfl) rfl ?_;apply Exists.intro;refine And.intro ?_ ?_
   ·intro K' a wy ho hd hb hK;rw [if_pos (wanted_none rfl)];have o6:=ho 6 (by decide);simp [slot] at o6;clear hd ho;go_simp;try go_bits
    exact hK _ _ rfl (Below.refl _ _)
   refine GCh.val (n:=1) (fun v=>[_,IsV v]) (fun _=>rfl) rfl ?_;apply Exists.intro;refine And.intro ?_ ?_
   ·intro K' a wy ho hd hb hK;rw [if_pos (wanted_none rfl)];have q0:=hd ⟨0,.data⟩ (by simp) rfl;simp [rAt,IsV,slot] at q0;clear hd ho;have hst:=HCP.out wy hb;have HHk:=hst.at (.head _);have k0:=HHk.cell (j:=0) rfl;have k1:=HHk.cell (j:=1) rfl;have k2:=HHk.cell (j:=2) rfl;have k3:=HHk.cell (j:=3) rfl;have k4:=HHk.cell (j:=4) rfl;have k5:=HHk.cell (j:=5) rfl;have k6:=HHk.cell (j:=6) rfl;have k7:=HHk.cell (j:=7) rfl;have k8:=HHk.cell (j:=8) rfl;have k9:=HHk.cell (j:=9) rfl;have k10:=HHk.cell (j:=10) rfl;clear HHk;clear hst;go_simp;try go_bits
    exact hK _ _ rfl (Below.refl _ _)
   refine GCh.val (n:=2) (fun v=>[_,_,IsV v]) (fun _=>rfl) rfl ?_;apply Exists.intro;refine And.intro ?_ ?_
   ·intro K' a wy ho hd hb hK;rw [if_pos (wanted_none rfl)];have q1:=hd ⟨1,.data⟩ (by simp) rfl;simp [rAt,IsV,slot] at q1;clear hd ho;go_simp;try go_bits
    exact hK _ _ rfl (Below.refl _ _)
   refine GCh.val (n:=3) (fun v=>[_,_,_,IsV v]) (fun _=>rfl) rfl ?_;apply Exists.intro;refine And.intro ?_ ?_
   ·intro K' a wy ho hd hb hK;rw [if_pos (wanted_none rfl)];have q2:=hd ⟨2,.data⟩ (by simp) rfl;simp [rAt,IsV,slot] at q2;clear hd ho;go_simp;try go_bits
    exact hK _ _ rfl (Below.refl _ _)
   refine GCh.val (n:=4) (fun v=>[_,_,_,_,IsV v]) (fun _=>rfl) rfl ?_;apply Exists.intro;refine And.intro ?_ ?_
   ·intro K' a wy ho hd hb hK;have hgs:IsV (.bool false) (slot a 59) wy:=hd ⟨3,.guard⟩ (by simp) rfl;rw [wanted_of (j:=3) (d:=59) (b:=false) (want:=false) (hg:=rfl) (ho:=rfl) (hd:=rfl) (hs:=hgs)];rw [if_pos (by decide)];clear hgs;have o6:=ho 6 (by decide);simp [slot] at o6;clear hd ho;go_simp;try go_bits
    exact hK _ _ rfl (Below.refl _ _)
   refine GCh.val (n:=5) (fun v=>[_,_,_,_,_,IsV v]) (fun _=>rfl) rfl ?_;apply Exists.intro;refine And.intro ?_ ?_
   ·intro K' a wy ho hd hb hK;have hgs:IsV (.bool false) (slot a 59) wy:=hd ⟨3,.guard⟩ (by simp) rfl;rw [wanted_of (j:=3) (d:=59) (b:=false) (want:=false) (hg:=rfl) (ho:=rfl) (hd:=rfl) (hs:=hgs)];rw [if_pos (by decide)];clear hgs;have q4:=hd ⟨4,.data⟩ (by simp) rfl;simp [rAt,IsV,slot] at q4;clear hd ho;have hst:=HCP.out wy hb;have HHk:=hst.at (.head _);have k0:=HHk.cell (j:=0) rfl;have k1:=HHk.cell (j:=1) rfl;have k2:=HHk.cell (j:=2) rfl;have k3:=HHk.cell (j:=3) rfl;have k4:=HHk.cell (j:=4) rfl;have k5:=HHk.cell (j:=5) rfl;have k6:=HHk.cell (j:=6) rfl;have k7:=HHk.cell (j:=7) rfl;have k8:=HHk.cell (j:=8) rfl;have k9:=HHk.cell (j:=9) rfl;have k10:=HHk.cell (j:=10) rfl;clear HHk;clear hst;go_simp;try go_bits
    exact hK _ _ rfl (Below.refl _ _)
   refine GCh.rel (n:=6) (IsZ16) (stable_isZ16) [_,_,_,_,_,_,IsZ16] rfl rfl ?_ ?_
   ·intro K' a wy ho hd hb hK;have hgs:IsV (.bool false) (slot a 59) wy:=hd ⟨3,.guard⟩ (by simp) rfl;rw [wanted_of (j:=3) (d:=59) (b:=false) (want:=false) (hg:=rfl) (ho:=rfl) (hd:=rfl) (hs:=hgs)];rw [if_pos (by decide)];clear hgs;clear hd ho;go_simp;exact hK _ _ ⟨wy.heap.size,rfl,made16 wy⟩ ((Below.refl _ _).alloc (Nat.le_refl _) _)
   refine GCh.val (n:=7) (fun v=>[_,_,_,_,_,_,_,IsV v]) (fun _=>rfl) rfl ?_;apply Exists.intro;refine And.intro ?_ ?_
   ·intro K' a wy ho hd hb hK;have hgs:IsV (.bool false) (slot a 59) wy:=hd ⟨3,.guard⟩ (by simp) rfl;rw [wanted_of (j:=3) (d:=59) (b:=false) (want:=false) (hg:=rfl) (ho:=rfl) (hd:=rfl) (hs:=hgs)];rw [if_pos (by decide)];clear hgs;have hr:IsZ16 (slot a 62) wy:=hd ⟨6,.data⟩ (by simp) rfl;obtain ⟨g3,e3,e5⟩:=hr;simp [slot] at e3;have hcv:=z16_conv e5;clear hd ho;go_simp;try go_bits
    exact hK _ _ rfl (Below.refl _ _)
   refine GCh.val (n:=8) (fun v=>[_,_,_,_,_,_,_,_,IsV v]) (fun _=>rfl) rfl ?_;apply Exists.intro;refine And.intro ?_ ?_
   ·intro K' a wy ho hd hb hK;have hgs:IsV (.bool false) (slot a 59) wy:=hd ⟨3,.guard⟩ (by simp) rfl;rw [wanted_of (j:=3) (d:=59) (b:=false) (want:=false) (hg:=rfl) (ho:=rfl) (hd:=rfl) (hs:=hgs)];rw [if_pos (by decide)];clear hgs;have q5:=hd ⟨5,.data⟩ (by simp) rfl;simp [rAt,IsV,slot] at q5;have q7:=hd ⟨7,.data⟩ (by simp) rfl;simp [rAt,IsV,slot] at q7;clear hd ho;go_simp;try go_bits
    exact hK _ _ rfl (Below.refl _ _)
   refine GCh.val (n:=9) (fun v=>[_,_,_,_,_,_,_,_,_,IsV v]) (fun _=>rfl) rfl ?_;apply Exists.intro;refine And.intro ?_ ?_
   ·intro K' a wy ho hd hb hK;rw [if_pos (wanted_none rfl)];have q3:=hd ⟨3,.data⟩ (by simp) rfl;simp [rAt,IsV,slot] at q3;have q8:=hd ⟨8,.data⟩ (by simp) rfl;simp [rAt,IsV,slot] at q8;clear hd ho;go_simp;try go_bits
    exact hK _ _ rfl (Below.refl _ _)
   refine GCh.val (n:=10) (fun v=>[_,_,_,_,_,_,_,_,_,_,IsV v]) (fun _=>rfl) rfl ?_;apply Exists.intro;refine And.intro ?_ ?_
   ·intro K' a wy ho hd hb hK;rw [if_pos (wanted_none rfl)];have q9:=hd ⟨9,.data⟩ (by simp) rfl;simp [rAt,IsV,slot] at q9;clear hd ho;go_simp;try go_bits
    exact hK _ _ rfl (Below.refl _ _)
   refine GCh.val (n:=11) (fun v=>[_,_,_,_,_,_,_,_,_,_,_,IsV v]) (fun _=>rfl) rfl ?_;apply Exists.intro;refine And.intro ?_ ?_
   ·intro K' a wy ho hd hb hK;have hgs:IsV (.bool false) (slot a 66) wy:=hd ⟨10,.guard⟩ (by simp) rfl;rw [wanted_of (j:=10) (d:=66) (b:=false) (want:=false) (hg:=rfl) (ho:=rfl) (hd:=rfl) (hs:=hgs)];rw [if_pos (by decide)];clear hgs;have o6:=ho 6 (by decide);simp [slot] at o6;clear hd ho;go_simp;try go_bits
    exact hK _ _ rfl (Below.refl _ _)
   refine GCh.val (n:=12) (fun v=>[_,_,_,_,_,_,_,_,_,_,_,_,IsV v]) (fun _=>rfl) rfl ?_;apply Exists.intro;refine And.intro ?_ ?_
   ·intro K' a wy ho hd hb hK;have hgs:IsV (.bool false) (slot a 66) wy:=hd ⟨10,.guard⟩ (by simp) rfl;rw [wanted_of (j:=10) (d:=66) (b:=false) (want:=false) (hg:=rfl) (ho:=rfl) (hd:=rfl) (hs:=hgs)];rw [if_pos (by decide)];clear hgs;have q11:=hd ⟨11,.data⟩ (by simp) rfl;simp [rAt,IsV,slot] at q11;clear hd ho;have hst:=HCP.out wy hb;have HHk:=hst.at (.head _);have k0:=HHk.cell (j:=0) rfl;have k1:=HHk.cell (j:=1) rfl;have k2:=HHk.cell (j:=2) rfl;have k3:=HHk.cell (j:=3) rfl;have k4:=HHk.cell (j:=4) rfl;have k5:=HHk.cell (j:=5) rfl;have k6:=HHk.cell (j:=6) rfl;have k7:=HHk.cell (j:=7) rfl;have k8:=HHk.cell (j:=8) rfl;have k9:=HHk.cell (j:=9) rfl;have k10:=HHk.cell (j:=10) rfl;clear HHk;clear hst;go_simp;try go_bits
    exact hK _ _ rfl (Below.refl _ _)
   refine GCh.val (n:=13) (fun v=>[_,_,_,_,_,_,_,_,_,_,_,_,_,IsV v]) (fun _=>rfl) rfl ?_;apply Exists.intro;refine And.intro ?_ ?_
   ·intro K' a wy ho hd hb hK;have hgs:IsV (.bool false) (slot a 66) wy:=hd ⟨10,.guard⟩ (by simp) rfl;rw [wanted_of (j:=10) (d:=66) (b:=false) (want:=false) (hg:=rfl) (ho:=rfl) (hd:=rfl) (hs:=hgs)];rw [if_pos (by decide)];clear hgs;have q12:=hd ⟨12,.data⟩ (by simp) rfl;simp [rAt,IsV,slot] at q12;clear hd ho;go_simp;try go_bits
    exact hK _ _ rfl (Below.refl _ _)
   refine GCh.val (n:=14) (fun v=>[_,_,_,_,_,_,_,_,_,_,_,_,_,_,IsV v]) (fun _=>rfl) rfl ?_;apply Exists.intro;refine And.intro ?_ ?_
   ·intro K' a wy ho hd hb hK;have hgs:IsV (.bool false) (slot a 66) wy:=hd ⟨10,.guard⟩ (by simp) rfl;rw [wanted_of (j:=10) (d:=66) (b:=false) (want:=false) (hg:=rfl) (ho:=rfl) (hd:=rfl) (hs:=hgs)];rw [if_pos (by decide)];clear hgs;have q13:=hd ⟨13,.data⟩ (by simp) rfl;simp [rAt,IsV,slot] at q13;clear hd ho;go_simp;try go_bits
    exact hK _ _ rfl (Below.refl _ _)
   refine GCh.val (n:=15) (fun v=>[_,_,_,_,_,_,_,_,_,_,_,_,_,_,_,IsV v]) (fun _=>rfl) rfl ?_;apply Exists.intro;refine And.intro ?_ ?_
   ·intro K' a wy ho hd hb hK;rw [if_pos (wanted_none rfl)];have q10:=hd ⟨10,.data⟩ (by simp) rfl;simp [rAt,IsV,slot] at q10;have q14:=hd ⟨14,.data⟩ (by simp) rfl;simp [rAt,IsV,slot] at q14;clear hd ho;go_simp;try go_bits
    exact hK _ _ rfl (Below.refl _ _)
   refine GCh.val (n:=16) (fun v=>[_,_,_,_,_,_,_,_,_,_,_,_,_,_,_,_,IsV v]) (fun _=>rfl) rfl ?_;apply Exists.intro;refine And.intro ?_ ?_
   ·intro K' a wy ho hd hb hK;rw [if_pos (wanted_none rfl)];have q15:=hd ⟨15,.data⟩ (by simp) rfl;simp [rAt,IsV,slot] at q15;clear hd ho;go_simp;try go_bits
    exact hK _ _ rfl (Below.refl _ _)
   refine GCh.val (n:=17) (fun v=>[_,_,_,_,_,_,_,_,_,_,_,_,_,_,_,_,_,IsV v]) (fun _=>rfl) rfl ?_;apply Exists.intro;refine And.intro ?_ ?_
   ·intro K' a wy ho hd hb hK;have hgs:IsV (.bool true) (slot a 72) wy:=hd ⟨16,.guard⟩ (by simp) rfl;rw [wanted_of (j:=16) (d:=72) (b:=true) (want:=false) (hg:=rfl) (ho:=rfl) (hd:=rfl) (hs:=hgs)];rw [if_neg (by decide)];exact hK undef _ rfl (Below.refl _ _)
   refine GCh.val (n:=18) (fun v=>[_,_,_,_,_,_,_,_,_,_,_,_,_,_,_,_,_,_,IsV v]) (fun _=>rfl) rfl ?_;apply Exists.intro;refine And.intro ?_ ?_
   ·intro K' a wy ho hd hb hK;rw [if_pos (wanted_none rfl)];have q16:=hd ⟨16,.data⟩ (by simp) rfl;simp [rAt,IsV,slot] at q16;have q17:=hd ⟨17,.data⟩ (by simp) rfl;simp [rAt,IsV,slot] at q17;clear hd ho;go_simp;try go_bits
    exact hK _ _ rfl (Below.refl _ _)
   intro X wz hR hz;obtain ⟨x0,x1,x2,x3,x4,x5,x6,x7,x8,x9,x10,x11,x12,x13,x14,x15,x16,x17,x18,-⟩:=hR;obtain ⟨g3,e3,-⟩:=x6;simp only [IsV] at x0 x1 x2 x3 x4 x5 x7 x8 x9 x10 x11 x12 x13 x14 x15 x16 x17 x18;simp only [putsFrom,x0,x1,x2,x3,x4,x5,e3,x7,x8,x9,x10,x11,x12,x13,x14,x15,x16,x17,x18];clear x0 x1 x2 x3 x4 x5 x7 x8 x9 x10 x11 x12 x13 x14 x15 x16 x17 x18;have HF9:Hid (Bxs w [(w.heap.size,[.int .i64 cls,.int .i64 flow,.int .i64 next,.int .i64 hops,.string src,.string dst,.bool piece,.bool more,.int .i64 off,.int .i64 id,.string data]),(w.heap.size+1,[.int .i64 0,.int .i64 0,.int .i64 0,.int .i64 0,.string ⟨#[]⟩,.string ⟨#[]⟩,.bool false,.bool false,.int .i64 0,.int .i64 0,.string ⟨#[]⟩,.int .i64 0])] wz):=HCP.out wz hz;clear HCP;go_simp;refine hK2 _ _ (hJ _ _ ?_);(repeat apply Exists.intro)
   exact ⟨⟨by rw [HX.out],HF9.out⟩,rfl⟩
  have HX:Hid (du=e1):=by unfold Hid; rw [HDU.out,decide_eq_true a1,hs0,decide_eq_false a2]; rfl
  have d5:(bt src 0==255)=false:=by simp [a2]
  unfold z16 at hs0;clear HDU a1 a2;refine wp_region_growH [56,57,58,59,60,61,62,63,64,65,66,67,68,69,70,71,72,73,74] (by kernel_rfl) (by kernel_rfl) ?_;refine GCh.val (n:=0) (fun v=>[IsV v]) (fun _=>rfl) rfl ?_;apply Exists.intro;refine And.intro ?_ ?_
  ·intro K' a wy ho hd hb hK;rw [if_pos (wanted_none rfl)];have o6:=ho 6 (by decide);simp [slot] at o6;clear hd ho;go_simp;try go_bits
   exact hK _ _ rfl (Below.refl _ _)
  refine GCh.val (n:=1) (fun v=>[_,IsV v]) (fun _=>rfl) rfl ?_;apply Exists.intro;refine And.intro ?_ ?_
  ·intro K' a wy ho hd hb hK;rw [if_pos (wanted_none rfl)];have q0:=hd ⟨0,.data⟩ (by simp) rfl;simp [rAt,IsV,slot] at q0;clear hd ho;have hst:=HCP.out wy hb;have HHk:=hst.at (.head _);have k0:=HHk.cell (j:=0) rfl;have k1:=HHk.cell (j:=1) rfl;have k2:=HHk.cell (j:=2) rfl;have k3:=HHk.cell (j:=3) rfl;have k4:=HHk.cell (j:=4) rfl;have k5:=HHk.cell (j:=5) rfl;have k6:=HHk.cell (j:=6) rfl;have k7:=HHk.cell (j:=7) rfl;have k8:=HHk.cell (j:=8) rfl;have k9:=HHk.cell (j:=9) rfl;have k10:=HHk.cell (j:=10) rfl;clear HHk;clear hst;go_simp;try go_bits
   exact hK _ _ rfl (Below.refl _ _)
  refine GCh.val (n:=2) (fun v=>[_,_,IsV v]) (fun _=>rfl) rfl ?_;apply Exists.intro;refine And.intro ?_ ?_
  ·intro K' a wy ho hd hb hK;rw [if_pos (wanted_none rfl)];have q1:=hd ⟨1,.data⟩ (by simp) rfl;simp [rAt,IsV,slot] at q1;clear hd ho;go_simp;try go_bits
   exact hK _ _ rfl (Below.refl _ _)
  refine GCh.val (n:=3) (fun v=>[_,_,_,IsV v]) (fun _=>rfl) rfl ?_;apply Exists.intro;refine And.intro ?_ ?_
  ·intro K' a wy ho hd hb hK;rw [if_pos (wanted_none rfl)];have q2:=hd ⟨2,.data⟩ (by simp) rfl;simp [rAt,IsV,slot] at q2;clear hd ho;go_simp;try go_bits
   exact hK _ _ rfl (Below.refl _ _)
  refine GCh.val (n:=4) (fun v=>[_,_,_,_,IsV v]) (fun _=>rfl) rfl ?_;apply Exists.intro;refine And.intro ?_ ?_
  ·intro K' a wy ho hd hb hK;have hgs:IsV (.bool false) (slot a 59) wy:=hd ⟨3,.guard⟩ (by simp) rfl;rw [wanted_of (j:=3) (d:=59) (b:=false) (want:=false) (hg:=rfl) (ho:=rfl) (hd:=rfl) (hs:=hgs)];rw [if_pos (by decide)];clear hgs;have o6:=ho 6 (by decide);simp [slot] at o6;clear hd ho;go_simp;try go_bits
   exact hK _ _ rfl (Below.refl _ _)
  refine GCh.val (n:=5) (fun v=>[_,_,_,_,_,IsV v]) (fun _=>rfl) rfl ?_;apply Exists.intro;refine And.intro ?_ ?_
  ·intro K' a wy ho hd hb hK;have hgs:IsV (.bool false) (slot a 59) wy:=hd ⟨3,.guard⟩ (by simp) rfl;rw [wanted_of (j:=3) (d:=59) (b:=false) (want:=false) (hg:=rfl) (ho:=rfl) (hd:=rfl) (hs:=hgs)];rw [if_pos (by decide)];clear hgs;have q4:=hd ⟨4,.data⟩ (by simp) rfl;simp [rAt,IsV,slot] at q4;clear hd ho;have hst:=HCP.out wy hb;have HHk:=hst.at (.head _);have k0:=HHk.cell (j:=0) rfl;have k1:=HHk.cell (j:=1) rfl;have k2:=HHk.cell (j:=2) rfl;have k3:=HHk.cell (j:=3) rfl;have k4:=HHk.cell (j:=4) rfl;have k5:=HHk.cell (j:=5) rfl;have k6:=HHk.cell (j:=6) rfl;have k7:=HHk.cell (j:=7) rfl;have k8:=HHk.cell (j:=8) rfl;have k9:=HHk.cell (j:=9) rfl;have k10:=HHk.cell (j:=10) rfl;clear HHk;clear hst;go_simp;try go_bits
   exact hK _ _ rfl (Below.refl _ _)
  refine GCh.rel (n:=6) (IsZ16) (stable_isZ16) [_,_,_,_,_,_,IsZ16] rfl rfl ?_ ?_
  ·intro K' a wy ho hd hb hK;have hgs:IsV (.bool false) (slot a 59) wy:=hd ⟨3,.guard⟩ (by simp) rfl;rw [wanted_of (j:=3) (d:=59) (b:=false) (want:=false) (hg:=rfl) (ho:=rfl) (hd:=rfl) (hs:=hgs)];rw [if_pos (by decide)];clear hgs;clear hd ho;go_simp;exact hK _ _ ⟨wy.heap.size,rfl,made16 wy⟩ ((Below.refl _ _).alloc (Nat.le_refl _) _)
  refine GCh.val (n:=7) (fun v=>[_,_,_,_,_,_,_,IsV v]) (fun _=>rfl) rfl ?_;apply Exists.intro;refine And.intro ?_ ?_
  ·intro K' a wy ho hd hb hK;have hgs:IsV (.bool false) (slot a 59) wy:=hd ⟨3,.guard⟩ (by simp) rfl;rw [wanted_of (j:=3) (d:=59) (b:=false) (want:=false) (hg:=rfl) (ho:=rfl) (hd:=rfl) (hs:=hgs)];rw [if_pos (by decide)];clear hgs;have hr:IsZ16 (slot a 62) wy:=hd ⟨6,.data⟩ (by simp) rfl;obtain ⟨g3,e3,e5⟩:=hr;simp [slot] at e3;have hcv:=z16_conv e5;clear hd ho;go_simp;try go_bits
   exact hK _ _ rfl (Below.refl _ _)
  refine GCh.val (n:=8) (fun v=>[_,_,_,_,_,_,_,_,IsV v]) (fun _=>rfl) rfl ?_;apply Exists.intro;refine And.intro ?_ ?_
  ·intro K' a wy ho hd hb hK;have hgs:IsV (.bool false) (slot a 59) wy:=hd ⟨3,.guard⟩ (by simp) rfl;rw [wanted_of (j:=3) (d:=59) (b:=false) (want:=false) (hg:=rfl) (ho:=rfl) (hd:=rfl) (hs:=hgs)];rw [if_pos (by decide)];clear hgs;have q5:=hd ⟨5,.data⟩ (by simp) rfl;simp [rAt,IsV,slot] at q5;have q7:=hd ⟨7,.data⟩ (by simp) rfl;simp [rAt,IsV,slot] at q7;clear hd ho;go_simp;try go_bits
   exact hK _ _ rfl (Below.refl _ _)
  refine GCh.val (n:=9) (fun v=>[_,_,_,_,_,_,_,_,_,IsV v]) (fun _=>rfl) rfl ?_;apply Exists.intro;refine And.intro ?_ ?_
  ·intro K' a wy ho hd hb hK;rw [if_pos (wanted_none rfl)];have q3:=hd ⟨3,.data⟩ (by simp) rfl;simp [rAt,IsV,slot] at q3;have q8:=hd ⟨8,.data⟩ (by simp) rfl;simp [rAt,IsV,slot] at q8;clear hd ho;go_simp;try go_bits
   exact hK _ _ rfl (Below.refl _ _)
  refine GCh.val (n:=10) (fun v=>[_,_,_,_,_,_,_,_,_,_,IsV v]) (fun _=>rfl) rfl ?_;apply Exists.intro;refine And.intro ?_ ?_
  ·intro K' a wy ho hd hb hK;rw [if_pos (wanted_none rfl)];have q9:=hd ⟨9,.data⟩ (by simp) rfl;simp [rAt,IsV,slot] at q9;clear hd ho;go_simp;try go_bits
   exact hK _ _ rfl (Below.refl _ _)
  refine GCh.val (n:=11) (fun v=>[_,_,_,_,_,_,_,_,_,_,_,IsV v]) (fun _=>rfl) rfl ?_;apply Exists.intro;refine And.intro ?_ ?_
  ·intro K' a wy ho hd hb hK;have hgs:IsV (.bool false) (slot a 66) wy:=hd ⟨10,.guard⟩ (by simp) rfl;rw [wanted_of (j:=10) (d:=66) (b:=false) (want:=false) (hg:=rfl) (ho:=rfl) (hd:=rfl) (hs:=hgs)];rw [if_pos (by decide)];clear hgs;have o6:=ho 6 (by decide);simp [slot] at o6;clear hd ho;go_simp;try go_bits
   exact hK _ _ rfl (Below.refl _ _)
  refine GCh.val (n:=12) (fun v=>[_,_,_,_,_,_,_,_,_,_,_,_,IsV v]) (fun _=>rfl) rfl ?_;apply Exists.intro;refine And.intro ?_ ?_
  ·intro K' a wy ho hd hb hK;have hgs:IsV (.bool false) (slot a 66) wy:=hd ⟨10,.guard⟩ (by simp) rfl;rw [wanted_of (j:=10) (d:=66) (b:=false) (want:=false) (hg:=rfl) (ho:=rfl) (hd:=rfl) (hs:=hgs)];rw [if_pos (by decide)];clear hgs;have q11:=hd ⟨11,.data⟩ (by simp) rfl;simp [rAt,IsV,slot] at q11;clear hd ho;have hst:=HCP.out wy hb;have HHk:=hst.at (.head _);have k0:=HHk.cell (j:=0) rfl;have k1:=HHk.cell (j:=1) rfl;have k2:=HHk.cell (j:=2) rfl;have k3:=HHk.cell (j:=3) rfl;have k4:=HHk.cell (j:=4) rfl;have k5:=HHk.cell (j:=5) rfl;have k6:=HHk.cell (j:=6) rfl;have k7:=HHk.cell (j:=7) rfl;have k8:=HHk.cell (j:=8) rfl;have k9:=HHk.cell (j:=9) rfl;have k10:=HHk.cell (j:=10) rfl;clear HHk;clear hst;go_simp;try go_bits
   exact hK _ _ rfl (Below.refl _ _)
  refine GCh.val (n:=13) (fun v=>[_,_,_,_,_,_,_,_,_,_,_,_,_,IsV v]) (fun _=>rfl) rfl ?_;apply Exists.intro;refine And.intro ?_ ?_
  ·intro K' a wy ho hd hb hK;have hgs:IsV (.bool false) (slot a 66) wy:=hd ⟨10,.guard⟩ (by simp) rfl;rw [wanted_of (j:=10) (d:=66) (b:=false) (want:=false) (hg:=rfl) (ho:=rfl) (hd:=rfl) (hs:=hgs)];rw [if_pos (by decide)];clear hgs;have q12:=hd ⟨12,.data⟩ (by simp) rfl;simp [rAt,IsV,slot] at q12;clear hd ho;go_simp;try go_bits
   exact hK _ _ rfl (Below.refl _ _)
  refine GCh.val (n:=14) (fun v=>[_,_,_,_,_,_,_,_,_,_,_,_,_,_,IsV v]) (fun _=>rfl) rfl ?_;apply Exists.intro;refine And.intro ?_ ?_
  ·intro K' a wy ho hd hb hK;have hgs:IsV (.bool false) (slot a 66) wy:=hd ⟨10,.guard⟩ (by simp) rfl;rw [wanted_of (j:=10) (d:=66) (b:=false) (want:=false) (hg:=rfl) (ho:=rfl) (hd:=rfl) (hs:=hgs)];rw [if_pos (by decide)];clear hgs;have q13:=hd ⟨13,.data⟩ (by simp) rfl;simp [rAt,IsV,slot] at q13;clear hd ho;go_simp;try go_bits
   exact hK _ _ rfl (Below.refl _ _)
  refine GCh.val (n:=15) (fun v=>[_,_,_,_,_,_,_,_,_,_,_,_,_,_,_,IsV v]) (fun _=>rfl) rfl ?_;apply Exists.intro;refine And.intro ?_ ?_
  ·intro K' a wy ho hd hb hK;rw [if_pos (wanted_none rfl)];have q10:=hd ⟨10,.data⟩ (by simp) rfl;simp [rAt,IsV,slot] at q10;have q14:=hd ⟨14,.data⟩ (by simp) rfl;simp [rAt,IsV,slot] at q14;clear hd ho;go_simp;try go_bits
   exact hK _ _ rfl (Below.refl _ _)
  refine GCh.val (n:=16) (fun v=>[_,_,_,_,_,_,_,_,_,_,_,_,_,_,_,_,IsV v]) (fun _=>rfl) rfl ?_;apply Exists.intro;refine And.intro ?_ ?_
  ·intro K' a wy ho hd hb hK;rw [if_pos (wanted_none rfl)];have q15:=hd ⟨15,.data⟩ (by simp) rfl;simp [rAt,IsV,slot] at q15;clear hd ho;go_simp;try go_bits
   exact hK _ _ rfl (Below.refl _ _)
  refine GCh.val (n:=17) (fun v=>[_,_,_,_,_,_,_,_,_,_,_,_,_,_,_,_,_,IsV v]) (fun _=>rfl) rfl ?_;apply Exists.intro;refine And.intro ?_ ?_
  ·intro K' a wy ho hd hb hK;have hgs:IsV (.bool false) (slot a 72) wy:=hd ⟨16,.guard⟩ (by simp) rfl;rw [wanted_of (j:=16) (d:=72) (b:=false) (want:=false) (hg:=rfl) (ho:=rfl) (hd:=rfl) (hs:=hgs)];rw [if_pos (by decide)];clear hgs;have o11:=ho 11 (by decide);simp [slot] at o11;clear hd ho;go_simp;try go_bits
   exact hK _ _ rfl (Below.refl _ _)
  refine GCh.val (n:=18) (fun v=>[_,_,_,_,_,_,_,_,_,_,_,_,_,_,_,_,_,_,IsV v]) (fun _=>rfl) rfl ?_;apply Exists.intro;refine And.intro ?_ ?_
  ·intro K' a wy ho hd hb hK;rw [if_pos (wanted_none rfl)];have q16:=hd ⟨16,.data⟩ (by simp) rfl;simp [rAt,IsV,slot] at q16;have q17:=hd ⟨17,.data⟩ (by simp) rfl;simp [rAt,IsV,slot] at q17;clear hd ho;go_simp;try go_bits
   exact hK _ _ rfl (Below.refl _ _)
  intro X wz hR hz;obtain ⟨x0,x1,x2,x3,x4,x5,x6,x7,x8,x9,x10,x11,x12,x13,x14,x15,x16,x17,x18,-⟩:=hR;obtain ⟨g3,e3,-⟩:=x6;simp only [IsV] at x0 x1 x2 x3 x4 x5 x7 x8 x9 x10 x11 x12 x13 x14 x15 x16 x17 x18;simp only [putsFrom,x0,x1,x2,x3,x4,x5,e3,x7,x8,x9,x10,x11,x12,x13,x14,x15,x16,x17,x18];clear x0 x1 x2 x3 x4 x5 x7 x8 x9 x10 x11 x12 x13 x14 x15 x16 x17 x18;have HF9:Hid (Bxs w [(w.heap.size,[.int .i64 cls,.int .i64 flow,.int .i64 next,.int .i64 hops,.string src,.string dst,.bool piece,.bool more,.int .i64 off,.int .i64 id,.string data]),(w.heap.size+1,[.int .i64 0,.int .i64 0,.int .i64 0,.int .i64 0,.string ⟨#[]⟩,.string ⟨#[]⟩,.bool false,.bool false,.int .i64 0,.int .i64 0,.string ⟨#[]⟩,.int .i64 0])] wz):=HCP.out wz hz;clear HCP;go_simp;refine hK2 _ _ (hJ _ _ ?_);(repeat apply Exists.intro)
  exact ⟨⟨by rw [HX.out],HF9.out⟩,rfl⟩
 case rest =>
 obtain ⟨rfl,hS⟩:=hcut;clear S1 HDU k0 k1 k2 k3 k4 k5 k6 k7 k8 k9 k10;have S1:Hid (Bxs w [(w.heap.size,[.int .i64 cls,.int .i64 flow,.int .i64 next,.int .i64 hops,.string src,.string dst,.bool piece,.bool more,.int .i64 off,.int .i64 id,.string data]),(w.heap.size+1,[.int .i64 0,.int .i64 0,.int .i64 0,.int .i64 0,.string ⟨#[]⟩,.string ⟨#[]⟩,.bool false,.bool false,.int .i64 0,.int .i64 0,.string ⟨#[]⟩,.int .i64 0])] wc):=hS;clear hS;generalize wc=W1 at *;have HHk:=S1.out.at (.head _);have k0:=HHk.cell (j:=0) rfl;have k1:=HHk.cell (j:=1) rfl;have k2:=HHk.cell (j:=2) rfl;have k3:=HHk.cell (j:=3) rfl;have k4:=HHk.cell (j:=4) rfl;have k5:=HHk.cell (j:=5) rfl;have k6:=HHk.cell (j:=6) rfl;have k7:=HHk.cell (j:=7) rfl;have k8:=HHk.cell (j:=8) rfl;have k9:=HHk.cell (j:=9) rfl;have k10:=HHk.cell (j:=10) rfl;clear HHk
 cases du with
 | true =>
  go_upto_region 7 with fail
  clear k0 k1 k2 k3 k4 k5 k6 k7 k8 k9 k10;have HA1:True:=trivial;have HA2:True:=trivial;obtain ⟨x1,x2⟩:=HA3.out (by first | rfl | trivial);have X1:Hid _:=x1;have X2:Hid _:=x2;clear x1 x2 HA1 HA2 HA3 HA4;have HHz:=S1.out.at (.tail _ (.head _));have z0:=HHz.cell (j:=0) rfl;have z1:=HHz.cell (j:=1) rfl;have z2:=HHz.cell (j:=2) rfl;have z3:=HHz.cell (j:=3) rfl;have z4:=HHz.cell (j:=4) rfl;have z5:=HHz.cell (j:=5) rfl;have z6:=HHz.cell (j:=6) rfl;have z7:=HHz.cell (j:=7) rfl;have z8:=HHz.cell (j:=8) rfl;have z9:=HHz.cell (j:=9) rfl;have z10:=HHz.cell (j:=10) rfl;have z11:=HHz.cell (j:=11) rfl;have zf0:=HHz.free (j:=0) (by simp);have zf1:=HHz.free (j:=1) (by simp);have zf2:=HHz.free (j:=2) (by simp);have zf3:=HHz.free (j:=3) (by simp);have zf4:=HHz.free (j:=4) (by simp);have zf5:=HHz.free (j:=5) (by simp);have zf6:=HHz.free (j:=6) (by simp);have zf7:=HHz.free (j:=7) (by simp);have zf8:=HHz.free (j:=8) (by simp);have zf9:=HHz.free (j:=9) (by simp);have zf10:=HHz.free (j:=10) (by simp);have zf11:=HHz.free (j:=11) (by simp);have HRR:Hid (HoldsL ((((((((((((W1.setCell ⟨w.heap.size+1,0,none⟩ (.int .i64 0)).setCell ⟨w.heap.size+1,1,none⟩ (.int .i64 0)).setCell ⟨w.heap.size+1,2,none⟩ (.int .i64 0)).setCell ⟨w.heap.size+1,3,none⟩ (.int .i64 0)).setCell ⟨w.heap.size+1,4,none⟩ (.string ⟨#[]⟩)).setCell ⟨w.heap.size+1,5,none⟩ (.string ⟨#[]⟩)).setCell ⟨w.heap.size+1,6,none⟩ (.bool false)).setCell ⟨w.heap.size+1,7,none⟩ (.bool false)).setCell ⟨w.heap.size+1,8,none⟩ (.int .i64 0)).setCell ⟨w.heap.size+1,9,none⟩ (.int .i64 0)).setCell ⟨w.heap.size+1,10,none⟩ (.string ⟨#[]⟩)).setCell ⟨w.heap.size+1,11,none⟩ (.int .i64 11)) (w.heap.size+1) [.int .i64 0,.int .i64 0,.int .i64 0,.int .i64 0,.string ⟨#[]⟩,.string ⟨#[]⟩,.bool false,.bool false,.int .i64 0,.int .i64 0,.string ⟨#[]⟩,.int .i64 11]):=((((((((((((HHz.set 0 (.int .i64 0)).set 1 (.int .i64 0)).set 2 (.int .i64 0)).set 3 (.int .i64 0)).set 4 (.string ⟨#[]⟩)).set 5 (.string ⟨#[]⟩)).set 6 (.bool false)).set 7 (.bool false)).set 8 (.int .i64 0)).set 9 (.int .i64 0)).set 10 (.string ⟨#[]⟩)).set 11 (.int .i64 11));have RB:Hid _:=((((((((((((S1.out.b.setCell (p:=⟨w.heap.size+1,0,none⟩) hlr (.int .i64 0)).setCell (p:=⟨w.heap.size+1,1,none⟩) hlr (.int .i64 0)).setCell (p:=⟨w.heap.size+1,2,none⟩) hlr (.int .i64 0)).setCell (p:=⟨w.heap.size+1,3,none⟩) hlr (.int .i64 0)).setCell (p:=⟨w.heap.size+1,4,none⟩) hlr (.string ⟨#[]⟩)).setCell (p:=⟨w.heap.size+1,5,none⟩) hlr (.string ⟨#[]⟩)).setCell (p:=⟨w.heap.size+1,6,none⟩) hlr (.bool false)).setCell (p:=⟨w.heap.size+1,7,none⟩) hlr (.bool false)).setCell (p:=⟨w.heap.size+1,8,none⟩) hlr (.int .i64 0)).setCell (p:=⟨w.heap.size+1,9,none⟩) hlr (.int .i64 0)).setCell (p:=⟨w.heap.size+1,10,none⟩) hlr (.string ⟨#[]⟩)).setCell (p:=⟨w.heap.size+1,11,none⟩) hlr (.int .i64 11));clear HHz;go_wp2_with fail
  exact bodyPost_ret (results_mid Try.results18 _ _ (w.heap.size+1) [.int .i64 0,.int .i64 0,.int .i64 0,.int .i64 0,.string ⟨#[]⟩,.string ⟨#[]⟩,.bool false,.bool false,.int .i64 0,.int .i64 0,.string ⟨#[]⟩,.int .i64 11] _ rfl HRR.out Try.underlying47 rfl (show (Try.prog.info? 47).map (·.size)=some 12 by kernel_rfl)) rfl (And.intro (by rw [X1.out,X2.out]; rfl) RB.out)
 | false =>
 have HX:Hid _:=HA4.out (by first | rfl | trivial);clear HA3 HA4;go_upto_region 8 with fail
 go_cut [12] (fun v wx=>v=.string ba∧Bxs w [(w.heap.size,[.int .i64 cls,.int .i64 flow,.int .i64 next,.int .i64 hops,.string src,.string dst,.bool piece,.bool more,.int .i64 off,.int .i64 id,.string data]),(w.heap.size+1,[.int .i64 0,.int .i64 0,.int .i64 0,.int .i64 0,.string ⟨#[]⟩,.string ⟨#[]⟩,.bool false,.bool false,.int .i64 0,.int .i64 0,.string ⟨#[]⟩,.int .i64 0])] wx)
 case first =>
  rename_i J K2 hJ hK2;have HCP:Hid (∀ wy,Below W1.drew.heap.size W1.drew wy→_):=fun wy hy=>S1.out.kept ((Below.refl _ _).drew.trans hy)
  have x6:=sixV_size k c;have t2:=twoV_size n;generalize twoV n=tw at *;have m1:¬ 9223372036854775807 < (sixV k c).size+tw.size:=by omega
  have m2:¬ 9223372036854775807 < (sixV k c).size+tw.size+qt.size:=by omega
  have m3:¬ 9223372036854775807 < 8+qt.size:=by omega
  have HB0:Hid _:=HBA.out;clear S1 hun HX HSM HPT HT3 HSR HBA k0 k1 k2 k3 k4 k5 k6 k7 k8 k9 k10;have u1:IntKind.u8.wrap k=k:=by rw [IntKind.wrap_u8]; omega
  have u2:IntKind.u8.wrap c=c:=by rw [IntKind.wrap_u8]; omega
  refine wp_region_growH [76,77,78,79,80,81,82,83,84,85,86,87,88,12] (by kernel_rfl) (by kernel_rfl) ?_;refine GCh.val (n:=0) (fun v=>[IsV v]) (fun _=>rfl) rfl ?_;apply Exists.intro;refine And.intro ?_ ?_
  ·intro K' a wy ho hd hb hK;rw [if_pos (wanted_none rfl)];have o2:=ho 2 (by decide);simp [slot] at o2;clear hd ho;go_simp;try go_bits
   exact hK _ _ rfl (Below.refl _ _)
  refine GCh.val (n:=1) (fun v=>[_,IsV v]) (fun _=>rfl) rfl ?_;apply Exists.intro;refine And.intro ?_ ?_
  ·intro K' a wy ho hd hb hK;rw [if_pos (wanted_none rfl)];have q0:=hd ⟨0,.data⟩ (by simp) rfl;simp [rAt,IsV,slot] at q0;clear hd ho;go_simp;try go_bits
   exact hK _ _ rfl (Below.refl _ _)
  refine GCh.val (n:=2) (fun v=>[_,_,IsV v]) (fun _=>rfl) rfl ?_;apply Exists.intro;refine And.intro ?_ ?_
  ·intro K' a wy ho hd hb hK;rw [if_pos (wanted_none rfl)];have o3:=ho 3 (by decide);simp [slot] at o3;clear hd ho;go_simp;try go_bits
   exact hK _ _ rfl (Below.refl _ _)
  refine GCh.val (n:=3) (fun v=>[_,_,_,IsV v]) (fun _=>rfl) rfl ?_;apply Exists.intro;refine And.intro ?_ ?_
  ·intro K' a wy ho hd hb hK;rw [if_pos (wanted_none rfl)];have q2:=hd ⟨2,.data⟩ (by simp) rfl;simp [rAt,IsV,slot] at q2;clear hd ho;go_simp;try go_bits
   exact hK _ _ rfl (Below.refl _ _)
  refine GCh.rel (n:=4) (IsSix k c) (stable_isSix k c) [_,_,_,_,IsSix k c] rfl rfl ?_ ?_
  ·intro K' a wy ho hd hb hK;rw [if_pos (wanted_none rfl)];have q1:=hd ⟨1,.data⟩ (by simp) rfl;simp [rAt,IsV,slot] at q1;have q3:=hd ⟨3,.data⟩ (by simp) rfl;simp [rAt,IsV,slot] at q3;clear hd ho;go_simp;exact hK _ _ ⟨wy.heap.size,rfl,HoldsL.new wy [.int .u8 k,.int .u8 c,.int .u8 0,.int .u8 0,.int .u8 0,.int .u8 0] _⟩ ((Below.refl _ _).alloc (Nat.le_refl _) _)
  refine GCh.val (n:=5) (fun v=>[_,_,_,_,_,IsV v]) (fun _=>rfl) rfl ?_;apply Exists.intro;refine And.intro ?_ ?_
  ·intro K' a wy ho hd hb hK;rw [if_pos (wanted_none rfl)];have hr:IsSix k c (slot a 80) wy:=hd ⟨4,.data⟩ (by simp) rfl;obtain ⟨g3,e3,e5⟩:=hr;simp [slot] at e3;have hcv:=six_conv hk hc e5;clear hd ho;go_simp;try go_bits
   exact hK _ _ rfl (Below.refl _ _)
  refine GCh.val (n:=6) (fun v=>[_,_,_,_,_,_,IsV v]) (fun _=>rfl) rfl ?_;apply Exists.intro;refine And.intro ?_ ?_
  ·intro K' a wy ho hd hb hK;rw [if_pos (wanted_none rfl)];have o4:=ho 4 (by decide);simp [slot] at o4;clear hd ho;go_simp;try go_bits
   exact hK _ _ rfl (Below.refl _ _)
  refine GCh.val (n:=7) (fun v=>[_,_,_,_,_,_,_,IsV v]) (fun _=>rfl) rfl ?_;apply Exists.intro;refine And.intro ?_ ?_
  ·intro K' a wy ho hd hb hK;rw [if_pos (wanted_none rfl)];have q6:=hd ⟨6,.data⟩ (by simp) rfl;simp [rAt,IsV,slot] at q6;clear hd ho;go_simp;refine (HT2.out wy).mono ?_;rintro e wz ⟨rfl,hz⟩;exact hK _ _ rfl hz
  refine GCh.val (n:=8) (fun v=>[_,_,_,_,_,_,_,_,IsV v]) (fun _=>rfl) rfl ?_;apply Exists.intro;refine And.intro ?_ ?_
  ·intro K' a wy ho hd hb hK;rw [if_pos (wanted_none rfl)];have q5:=hd ⟨5,.data⟩ (by simp) rfl;simp [rAt,IsV,slot] at q5;have q7:=hd ⟨7,.data⟩ (by simp) rfl;simp [rAt,IsV,slot] at q7;clear hd ho;go_simp;try go_bits
   exact hK _ _ rfl (Below.refl _ _)
  refine GCh.val (n:=9) (fun v=>[_,_,_,_,_,_,_,_,_,IsV v]) (fun _=>rfl) rfl ?_;apply Exists.intro;refine And.intro ?_ ?_
  ·intro K' a wy ho hd hb hK;rw [if_pos (wanted_none rfl)];have o6:=ho 6 (by decide);simp [slot] at o6;clear hd ho;have hst:=HCP.out wy hb;have HHk:=hst.at (.head _);have k0:=HHk.cell (j:=0) rfl;have k1:=HHk.cell (j:=1) rfl;have k2:=HHk.cell (j:=2) rfl;have k3:=HHk.cell (j:=3) rfl;have k4:=HHk.cell (j:=4) rfl;have k5:=HHk.cell (j:=5) rfl;have k6:=HHk.cell (j:=6) rfl;have k7:=HHk.cell (j:=7) rfl;have k8:=HHk.cell (j:=8) rfl;have k9:=HHk.cell (j:=9) rfl;have k10:=HHk.cell (j:=10) rfl;clear HHk;clear hst;go_simp;try go_bits
   exact hK _ _ rfl (Below.refl _ _)
  refine GCh.val (n:=10) (fun v=>[_,_,_,_,_,_,_,_,_,_,IsV v]) (fun _=>rfl) rfl ?_;apply Exists.intro;refine And.intro ?_ ?_
  ·intro K' a wy ho hd hb hK;rw [if_pos (wanted_none rfl)];have q9:=hd ⟨9,.data⟩ (by simp) rfl;simp [rAt,IsV,slot] at q9;clear hd ho;go_simp;refine (HRW.out wy).mono ?_;rintro e wz ⟨rfl,hz⟩;exact hK _ _ rfl hz
  refine GCh.val (n:=11) (fun v=>[_,_,_,_,_,_,_,_,_,_,_,IsV v]) (fun _=>rfl) rfl ?_;apply Exists.intro;refine And.intro ?_ ?_
  ·intro K' a wy ho hd hb hK;rw [if_pos (wanted_none rfl)];have q10:=hd ⟨10,.data⟩ (by simp) rfl;simp [rAt,IsV,slot] at q10;clear hd ho;go_simp;refine (HF.out wy).mono ?_;rintro e wz ⟨rfl,hz⟩;exact hK _ _ rfl hz
  refine GCh.val (n:=12) (fun v=>[_,_,_,_,_,_,_,_,_,_,_,_,IsV v]) (fun _=>rfl) rfl ?_;apply Exists.intro;refine And.intro ?_ ?_
  ·intro K' a wy ho hd hb hK;rw [if_pos (wanted_none rfl)];have q8:=hd ⟨8,.data⟩ (by simp) rfl;simp [rAt,IsV,slot] at q8;have q11:=hd ⟨11,.data⟩ (by simp) rfl;simp [rAt,IsV,slot] at q11;clear hd ho;go_simp;try go_bits
   exact hK _ _ rfl (Below.refl _ _)
  refine GCh.val (n:=13) (fun v=>[_,_,_,_,_,_,_,_,_,_,_,_,_,IsV v]) (fun _=>rfl) rfl ?_;apply Exists.intro;refine And.intro ?_ ?_
  ·intro K' a wy ho hd hb hK;rw [if_pos (wanted_none rfl)];have q12:=hd ⟨12,.data⟩ (by simp) rfl;simp [rAt,IsV,slot] at q12;clear hd ho;go_simp;try go_bits
   exact hK _ _ rfl (Below.refl _ _)
  intro X wz hR hz;obtain ⟨x0,x1,x2,x3,x4,x5,x6,x7,x8,x9,x10,x11,x12,x13,-⟩:=hR;obtain ⟨g3,e3,-⟩:=x4;simp only [IsV] at x0 x1 x2 x3 x5 x6 x7 x8 x9 x10 x11 x12 x13;simp only [putsFrom,x0,x1,x2,x3,e3,x5,x6,x7,x8,x9,x10,x11,x12,x13];clear x0 x1 x2 x3 x5 x6 x7 x8 x9 x10 x11 x12 x13;have HF9:Hid (Bxs w [(w.heap.size,[.int .i64 cls,.int .i64 flow,.int .i64 next,.int .i64 hops,.string src,.string dst,.bool piece,.bool more,.int .i64 off,.int .i64 id,.string data]),(w.heap.size+1,[.int .i64 0,.int .i64 0,.int .i64 0,.int .i64 0,.string ⟨#[]⟩,.string ⟨#[]⟩,.bool false,.bool false,.int .i64 0,.int .i64 0,.string ⟨#[]⟩,.int .i64 0])] wz):=HCP.out wz hz;clear HCP;go_simp;refine hK2 _ _ (hJ _ _ ?_);(repeat apply Exists.intro)
  exact ⟨⟨by rw [HB0.out],HF9.out⟩,rfl⟩
 case rest =>
 obtain ⟨rfl,hS⟩:=hcut;clear S1 HT2 HBA HRW HF k0 k1 k2 k3 k4 k5 k6 k7 k8 k9 k10;have S1:Hid (Bxs w [(w.heap.size,[.int .i64 cls,.int .i64 flow,.int .i64 next,.int .i64 hops,.string src,.string dst,.bool piece,.bool more,.int .i64 off,.int .i64 id,.string data]),(w.heap.size+1,[.int .i64 0,.int .i64 0,.int .i64 0,.int .i64 0,.string ⟨#[]⟩,.string ⟨#[]⟩,.bool false,.bool false,.int .i64 0,.int .i64 0,.string ⟨#[]⟩,.int .i64 0])] wc):=hS;clear hS;generalize wc=W1 at *;have HHk:=S1.out.at (.head _);have k0:=HHk.cell (j:=0) rfl;have k1:=HHk.cell (j:=1) rfl;have k2:=HHk.cell (j:=2) rfl;have k3:=HHk.cell (j:=3) rfl;have k4:=HHk.cell (j:=4) rfl;have k5:=HHk.cell (j:=5) rfl;have k6:=HHk.cell (j:=6) rfl;have k7:=HHk.cell (j:=7) rfl;have k8:=HHk.cell (j:=8) rfl;have k9:=HHk.cell (j:=9) rfl;have k10:=HHk.cell (j:=10) rfl;clear HHk;have wsm:IntKind.i64.wrap (65535-sm)=65535-sm:=by have:=HSR.out; rw [IntKind.wrap_i64]; omega
 go_wp2_with fail
 refine (HSM.out _).mono ?_;rintro e W2 ⟨rfl,q1⟩;have S2:Hid _:=S1.out.kept q1;clear q1 S1 HSM k0 k1 k2 k3 k4 k5 k6 k7 k8 k9 k10;go_wp2_with fail
 refine (HT3.out _).mono ?_;rintro e W3 ⟨rfl,q1⟩;have S3:Hid _:=S2.out.kept q1;clear q1 S2 HT3;go_wp2_with fail
 refine (HPT.out _).mono ?_;rintro e W4 ⟨rfl,q1⟩;have S4:Hid _:=S3.out.kept q1;clear q1 S3 HPT;have HHk:=S4.out.at (.head _);have k0:=HHk.cell (j:=0) rfl;have k1:=HHk.cell (j:=1) rfl;have k2:=HHk.cell (j:=2) rfl;have k3:=HHk.cell (j:=3) rfl;have k4:=HHk.cell (j:=4) rfl;have k5:=HHk.cell (j:=5) rfl;have k6:=HHk.cell (j:=6) rfl;have k7:=HHk.cell (j:=7) rfl;have k8:=HHk.cell (j:=8) rfl;have k9:=HHk.cell (j:=9) rfl;have k10:=HHk.cell (j:=10) rfl;clear HHk;have HHz:=S4.out.at (.tail _ (.head _));have z0:=HHz.cell (j:=0) rfl;have z1:=HHz.cell (j:=1) rfl;have z2:=HHz.cell (j:=2) rfl;have z3:=HHz.cell (j:=3) rfl;have z4:=HHz.cell (j:=4) rfl;have z5:=HHz.cell (j:=5) rfl;have z6:=HHz.cell (j:=6) rfl;have z7:=HHz.cell (j:=7) rfl;have z8:=HHz.cell (j:=8) rfl;have z9:=HHz.cell (j:=9) rfl;have z10:=HHz.cell (j:=10) rfl;have z11:=HHz.cell (j:=11) rfl;have zf0:=HHz.free (j:=0) (by simp);have zf1:=HHz.free (j:=1) (by simp);have zf2:=HHz.free (j:=2) (by simp);have zf3:=HHz.free (j:=3) (by simp);have zf4:=HHz.free (j:=4) (by simp);have zf5:=HHz.free (j:=5) (by simp);have zf6:=HHz.free (j:=6) (by simp);have zf7:=HHz.free (j:=7) (by simp);have zf8:=HHz.free (j:=8) (by simp);have zf9:=HHz.free (j:=9) (by simp);have zf10:=HHz.free (j:=10) (by simp);have zf11:=HHz.free (j:=11) (by simp);have HRR:Hid (HoldsL ((((((((((((W4.setCell ⟨w.heap.size+1,0,none⟩ (.int .i64 0)).setCell ⟨w.heap.size+1,1,none⟩ (.int .i64 0)).setCell ⟨w.heap.size+1,2,none⟩ (.int .i64 58)).setCell ⟨w.heap.size+1,3,none⟩ (.int .i64 64)).setCell ⟨w.heap.size+1,4,none⟩ (.string s)).setCell ⟨w.heap.size+1,5,none⟩ (.string src)).setCell ⟨w.heap.size+1,6,none⟩ (.bool false)).setCell ⟨w.heap.size+1,7,none⟩ (.bool false)).setCell ⟨w.heap.size+1,8,none⟩ (.int .i64 0)).setCell ⟨w.heap.size+1,9,none⟩ (.int .i64 0)).setCell ⟨w.heap.size+1,10,none⟩ (.string tl)).setCell ⟨w.heap.size+1,11,none⟩ (.int .i64 0)) (w.heap.size+1) [.int .i64 0,.int .i64 0,.int .i64 58,.int .i64 64,.string s,.string src,.bool false,.bool false,.int .i64 0,.int .i64 0,.string tl,.int .i64 0]):=((((((((((((HHz.set 0 (.int .i64 0)).set 1 (.int .i64 0)).set 2 (.int .i64 58)).set 3 (.int .i64 64)).set 4 (.string s)).set 5 (.string src)).set 6 (.bool false)).set 7 (.bool false)).set 8 (.int .i64 0)).set 9 (.int .i64 0)).set 10 (.string tl)).set 11 (.int .i64 0));have RB:Hid _:=((((((((((((S4.out.b.setCell (p:=⟨w.heap.size+1,0,none⟩) hlr (.int .i64 0)).setCell (p:=⟨w.heap.size+1,1,none⟩) hlr (.int .i64 0)).setCell (p:=⟨w.heap.size+1,2,none⟩) hlr (.int .i64 58)).setCell (p:=⟨w.heap.size+1,3,none⟩) hlr (.int .i64 64)).setCell (p:=⟨w.heap.size+1,4,none⟩) hlr (.string s)).setCell (p:=⟨w.heap.size+1,5,none⟩) hlr (.string src)).setCell (p:=⟨w.heap.size+1,6,none⟩) hlr (.bool false)).setCell (p:=⟨w.heap.size+1,7,none⟩) hlr (.bool false)).setCell (p:=⟨w.heap.size+1,8,none⟩) hlr (.int .i64 0)).setCell (p:=⟨w.heap.size+1,9,none⟩) hlr (.int .i64 0)).setCell (p:=⟨w.heap.size+1,10,none⟩) hlr (.string tl)).setCell (p:=⟨w.heap.size+1,11,none⟩) hlr (.int .i64 0));clear HHz;go_wp2_with fail
 exact bodyPost_ret (results_mid Try.results18 _ _ (w.heap.size+1) [.int .i64 0,.int .i64 0,.int .i64 58,.int .i64 64,.string s,.string src,.bool false,.bool false,.int .i64 0,.int .i64 0,.string tl,.int .i64 0] _ rfl HRR.out Try.underlying47 rfl (show (Try.prog.info? 47).map (·.size)=some 12 by kernel_rfl)) rfl (And.intro (by rw [HX.out.1,HX.out.2]; rfl) RB.out)
end Go.Proofs.Ytagbhaalmjpkjaa
