import Derived.Test.YtdkepkaflielhaaGreatDoorMerged17
set_option linter.unusedVariables false
set_option linter.unusedSimpArgs false
set_option maxRecDepth 100000
set_option maxHeartbeats 8000000
namespace Go.Proofs.YtdkepkaflielhaaGreatDoor
open Go.RowKit Go.PlainAid
theorem bindV_dr {f:Bd→Bool} {xs:List Bd} {s:ByteArray} (h:∀ q∈xs,BdDr q):BdDr (bindV f xs s):=by
 have hz:BdDr bdZ:=⟨by decide,by decide,by unfold inR; decide,by unfold inR; decide,by unfold inR; decide⟩;unfold bindV;by_cases h1:20000 < s.size
 ·rw [if_pos h1]; exact hz
 ·rw [if_neg h1]
  cases hf:xs.find? f with
  | none=>exact hz
  | some c=>exact h c (List.mem_of_find?_eq_some hf)
abbrev tuR (t:Tc):List Value:=(TcV t)
abbrev K8 (w:World) (pa:Option Addr) (pc:Nat) (p:Pl) (ba bo:Option Addr) (ca cb:Nat) (x:Bb):List (Nat × List Value):=[(w.heap.size,(PlV pa pc p)),(w.heap.size+1,(BbV ba ca bo cb x)),(w.heap.size+1+1,(TcR 0 false ⟨#[]⟩ 0 ⟨#[]⟩ 0 0))]
def XSs (n B:Nat) (ss:List Ss):Value→World→Prop:=fun v w=>∃ s∈ss,v=ssC s
theorem st_XSs (n B:Nat) (ss:List Ss):StableX (EB B) (XSs n B ss):=fun _ _ _ h _=>h
def XPtr (B:Nat) (ss:List Ss):Value→World→Prop:=fun v w=>∃ b o s,s∈ss∧v=.pointer (some ⟨b,o,none⟩)∧b≠B∧∀ j u,(ssL s)[j]?=some u→w.cell? ⟨b,o+j,none⟩=some u
theorem st_XPtr (B:Nat) (ss:List Ss):StableX (EB B) (XPtr B ss):=fun v w w' ⟨b,o,s,h1,h2,h3,h4⟩ he=>⟨b,o,s,h1,h2,h3,fun j u hu=>he.cell (h4 j u hu) h3⟩
theorem drawTouching_any (B:Nat) (sa:Option Addr) (len cap:Nat) (size:Int) (pa:Option Addr) (pc:Nat) (p:Pl) (ba bo:Option Addr) (ca cb:Nat) (x:Bb) (w:World) (hl:len≤1048576) (hpd:PlDr p) (hbd:BbDr x) (hp:SlIs strL1 1 w pa p.addrs) (hx:BbIs w ba bo x) (hpB':∀ g o,pa=some ⟨g,o,none⟩→g≠B) (hbB:x.binds=[]∨∀ g o,ba=some ⟨g,o,none⟩→g≠B) (hsB:x.sess=[]∨∀ g o,bo=some ⟨g,o,none⟩→g≠B) (hs:Src w B sa len cap size) :
  Calls Tryz.prog 55 #[.pointer (some ⟨B,0,none⟩),plC pa pc p,bbC ba bo ca cb x] w fun e w'=>∃ t,e=.returned (tcC t)∧TcDr t∧Src w' B sa len cap size∧w.grownBy w' (some B):=by
 have hBW:B < w.heap.size:=(Dr.start hs).hB;have HPX:Hid (∀ W,w.grownBy W (some B)→SlIs strL1 1 W pa p.addrs):=fun W hW=>hp.grown hW (.inr hpB')
 have HBX:Hid (∀ W,w.grownBy W (some B)→SlIs bdL 5 W ba x.binds):=fun W hW=>hx.bd.grown hW hbB
 have HSX:Hid (∀ W,w.grownBy W (some B)→SlIs ssL 7 W bo x.sess):=fun W hW=>hx.ss.grown hW hsB
 have HPD:Hid (PlDr p):=hpd;have HBD:Hid (BbDr x):=hbd;have hsl:x.sess.length≤100:=hbd.2.1;have hbl:x.binds.length≤1048576:=by have:=hbd.1; omega
 have hpl1:1≤p.addrs.length:=hpd.1;have hpl3:p.addrs.length≤3:=hpd.2.1;have HB:Hid (∀ (s:Ss) W,w.grownBy W (some B)→Calls Tryz.prog 11 #[.agg (BbV ba ca bo cb x).toArray,iV s.proto,.string s.inn,iV s.inPort] W fun e w'=>∃ o,BdDr o∧e=.returned (.agg (BdV o).toArray)∧Below W.heap.size W w'):=fun s W hW=>(specBindOf_any x.binds s.proto s.inn s.inPort ba ca _ W hbl (hx.bd.grown hW hbB)).mono fun e w' hh=>⟨_,bindV_dr hbd.2.2.1,hh.1,hh.2⟩
 have e0:HoldsL ((aW (aW w (PlV pa pc p) 27) (BbV ba ca bo cb x) 31).alloc (.cells (TcR 0 false ⟨#[]⟩ 0 ⟨#[]⟩ 0 0).toArray 89)) (w.heap.size) (PlV pa pc p):=by
  have h:=HoldsL.new w (PlV pa pc p) 27;try simp only [World.size_alloc] at h
  exact ((h.alloc _).alloc _)
 have e1:HoldsL ((aW (aW w (PlV pa pc p) 27) (BbV ba ca bo cb x) 31).alloc (.cells (TcR 0 false ⟨#[]⟩ 0 ⟨#[]⟩ 0 0).toArray 89)) (w.heap.size+1) (BbV ba ca bo cb x):=by
  have h:=HoldsL.new (w.alloc (.cells (PlV pa pc p).toArray 27)) (BbV ba ca bo cb x) 31;try simp only [World.size_alloc] at h
  exact (h.alloc _)
 have e2:HoldsL ((aW (aW w (PlV pa pc p) 27) (BbV ba ca bo cb x) 31).alloc (.cells (TcR 0 false ⟨#[]⟩ 0 ⟨#[]⟩ 0 0).toArray 89)) (w.heap.size+1+1) (TcR 0 false ⟨#[]⟩ 0 ⟨#[]⟩ 0 0):=by
  have h:=HoldsL.new ((aW w (PlV pa pc p) 27).alloc (.cells (BbV ba ca bo cb x).toArray 31)) (TcR 0 false ⟨#[]⟩ 0 ⟨#[]⟩ 0 0) 89;try simp only [World.size_alloc] at h
  exact h
 have HS0:Hid (DB w B sa len cap size (K8 w pa pc p ba bo ca cb x) ((aW (aW w (PlV pa pc p) 27) (BbV ba ca bo cb x) 31).alloc (.cells (TcR 0 false ⟨#[]⟩ 0 ⟨#[]⟩ 0 0).toArray 89))):=by
  refine ⟨((((Dr.start hs).alloc _).alloc _).alloc _),fun e he=>?_,fun e he=>?_,fun e he=>?_⟩
  ·simp only [List.mem_cons,List.not_mem_nil,or_false] at he;rcases he with rfl | rfl | rfl
   ·exact e0
   ·exact e1
   ·exact e2
  ·simp only [List.mem_cons,List.not_mem_nil,or_false] at he;rcases he with rfl | rfl | rfl<;>simp
  ·simp only [List.mem_cons,List.not_mem_nil,or_false] at he;rcases he with rfl | rfl | rfl<;>simp<;>omega
 clear e0 e1 e2 hs hp hx hpd hbd;have hun:undef=Value.tuple #[]:=rfl;unfold plC bbC;go_enter Tryz.func55,Tryz.ntmps55
 go_upto_region 1 with fail
 generalize World.alloc _ _=W0 at *;go_wp2_with fail
 refine (drawProto_any B sa len cap size _ hl HS0.out.dr.src).mono ?_;rintro e U1 ⟨pr,rfl,lpr,upr,hs,hg⟩;have T1:Hid (DB w B sa len cap size (K8 w pa pc p ba bo ca cb x) U1):=HS0.out.draw hs hg;clear hs hg HS0;go_wp2_with fail
 refine (drawOne_any 3 B sa len cap size _ (by omega) hl T1.out.dr.src).mono ?_;rintro e U2 ⟨c1,rfl,hs,hg⟩;have T2:Hid (DB w B sa len cap size (K8 w pa pc p ba bo ca cb x) U2):=T1.out.draw hs hg;clear hs hg T1;go_wp2_with fail
 refine (drawOne_any 4 B sa len cap size _ (by omega) hl T2.out.dr.src).mono ?_;rintro e U3 ⟨c2,rfl,hs,hg⟩;have T3:Hid (DB w B sa len cap size (K8 w pa pc p ba bo ca cb x) U3):=T2.out.draw hs hg;clear hs hg T2;go_wp2_with fail
 refine (drawAddr_any c2 B sa len cap size _ hl T3.out.dr.src).mono ?_;rintro e U4 ⟨s1,rfl,hz1,hs,hg⟩;have T4:Hid (DB w B sa len cap size (K8 w pa pc p ba bo ca cb x) U4):=T3.out.draw hs hg;clear hs hg T3;go_wp2_with fail
 refine (drawN_more 4 B sa len cap size _ (by omega) (by omega) hl T4.out.dr.src).mono ?_;rintro e U5 ⟨r1,rfl,lr1,ur1,hs,hg⟩;have T5:Hid (DB w B sa len cap size (K8 w pa pc p ba bo ca cb x) U5):=T4.out.draw hs hg;clear hs hg T4;go_wp2_with fail
 refine (drawAddr_any false B sa len cap size _ hl T5.out.dr.src).mono ?_;rintro e U6 ⟨s2,rfl,hz2,hs,hg⟩;have T6:Hid (DB w B sa len cap size (K8 w pa pc p ba bo ca cb x) U6):=T5.out.draw hs hg;clear hs hg T5;go_wp2_with fail
 refine (drawN_more 2 B sa len cap size _ (by omega) (by omega) hl T6.out.dr.src).mono ?_;rintro e U7 ⟨r2,rfl,lr2,ur2,hs,hg⟩;have T7:Hid (DB w B sa len cap size (K8 w pa pc p ba bo ca cb x) U7):=T6.out.draw hs hg;clear hs hg T6;go_wp2_with fail
 refine (drawFlags_any B sa len cap size _ hl T7.out.dr.src).mono ?_;rintro e U8 ⟨fl,rfl,lfl,ufl,hs,hg⟩;have T8:Hid (DB w B sa len cap size (K8 w pa pc p ba bo ca cb x) U8):=T7.out.draw hs hg;clear hs hg T7;go_upto_region 2 with fail
 have S1:Hid _:=T8.out.push (TcR pr (!c1) s1 (1000+r1) s2 (80+r2) fl) (by simp) 89;have hz1':s1.size≤1000:=by rw [hz1]; split<;>omega
 have hz2':s2.size≤1000:=by rw [hz2]; split<;>omega
 generalize hW1:U8.alloc _=W1 at *;have hne0:w.heap.size≠U8.heap.size∧w.heap.size+1≠U8.heap.size∧w.heap.size+1+1≠U8.heap.size:=by
  have h1:=T8.out.lts;exact ⟨Nat.ne_of_lt (h1 (_,_) mE0),Nat.ne_of_lt (h1 (_,_) mE1),Nat.ne_of_lt (h1 (_,_) mE2)⟩
 obtain ⟨u0,ht0⟩ : ∃ t:Tc,t=⟨pr,!c1,s1,1000+r1,s2,80+r2,fl⟩:=⟨_,rfl⟩;have HT0:Hid (TcDr u0):=by unfold Hid; rw [ht0]; exact ⟨hz1',hz2',by show inR pr; unfold inR; omega⟩
 generalize hXX:U8.heap.size=PX at *;have HNE:Hid (∀ e∈((K8 w pa pc p ba bo ca cb x):List (Nat × List Value)),e.1≠PX):=fun e he=>by
  simp only [List.mem_cons,List.not_mem_nil,or_false] at he;rcases he with rfl | rfl | rfl
  ·exact hne0.1
  ·exact hne0.2.1
  ·exact hne0.2.2
 have S2:Hid (DB w B sa len cap size ((PX,tuR u0)::K8 w pa pc p ba bo ca cb x) W1):=by unfold Hid; rw [ht0]; exact S1.out
 clear S1 hW1 hXX ht0 hne0 hz1 hz2 hz1' hz2' lpr upr lr1 ur1 lr2 ur2 lfl ufl;have HHt:HoldsL W1 PX (tuR u0):=S2.out.at mE0;have y1:=HHt.cell (j:=1) rfl;have yf1:=HHt.free (j:=1) (by simp);clear HHt;obtain ⟨ins,hin⟩ : ∃ b,b=u0.inside:=⟨_,rfl⟩;rw [← hin] at y1;clear hin;go_cut [35] (fun v wx=>(∃ b,v=.bool b)∧DB w B sa len cap size ((PX,tuR u0)::K8 w pa pc p ba bo ca cb x) wx)
 case first =>
  cases ins with
  | false =>
   go_wp2_with fail
   go_meet;exact ⟨⟨_,rfl⟩,S2.out⟩
  | true =>
   go_wp2_with fail
   refine (drawOne_any 2 B sa len cap size _ (by omega) hl S2.out.dr.src).mono ?_;rintro e U9 ⟨c9,rfl,hs,hg⟩;have S3:Hid (DB w B sa len cap size ((PX,tuR u0)::K8 w pa pc p ba bo ca cb x) U9):=S2.out.draw hs hg;clear hs hg;go_wp2_with fail
   go_meet;exact ⟨⟨_,rfl⟩,S3.out⟩
 case rest =>
 obtain ⟨⟨c3,rfl⟩,hS⟩:=hcut;have S4:Hid (DB w B sa len cap size ((PX,tuR u0)::K8 w pa pc p ba bo ca cb x) wc):=hS;clear hS S2 y1 yf1 ins;generalize wc=W4 at *;go_upto_if 35 with fail
 go_cut [] (fun wx=>∃ u,TcDr u∧DB w B sa len cap size ((PX,tuR u)::K8 w pa pc p ba bo ca cb x) wx)
 case first =>
  cases c3 with
  | false =>
   go_wp2_with fail
   go_meet;exact ⟨_,HT0.out,S4.out⟩
  | true =>
   have HHt:HoldsL W4 PX (tuR u0):=S4.out.at mE0;have y6:=HHt.cell (j:=6) rfl;have yf6:=HHt.free (j:=6) (by simp);clear HHt;have S5:Hid _:=S4.out.set 6 (iV 2) rfl HNE.out;go_wp2_with fail
   go_meet;exact ⟨{ u0 with flags:=2 },HT0.out,S5.out⟩
 case rest =>
 obtain ⟨u1,hu,hS⟩:=hcut;have Hu1:Hid (TcDr u1):=hu;have S6:Hid (DB w B sa len cap size ((PX,tuR u1)::K8 w pa pc p ba bo ca cb x) wc):=hS;clear hu hS S4 HT0;generalize wc=W6 at *;have HHt:HoldsL W6 PX (tuR u1):=S6.out.at mE0;have y1:=HHt.cell (j:=1) rfl;have yf1:=HHt.free (j:=1) (by simp);clear HHt;obtain ⟨ins,hin⟩ : ∃ b,b=u1.inside:=⟨_,rfl⟩;rw [← hin] at y1;clear hin;have HHp:HoldsL W6 (w.heap.size) (PlV pa pc p):=S6.out.at mE1;have p0:=HHp.cell (j:=0) rfl;clear HHp;have hpI:(0:Int) < (p.addrs.length:Int):=by omega
 go_upto_region 4 with fail
 go_cut [45] (fun v wx=>v=.bool (!ins)∧DB w B sa len cap size ((PX,tuR u1)::K8 w pa pc p ba bo ca cb x) wx)
 case first =>
  cases ins;all_goals
   go_wp2_with fail
   go_meet;exact ⟨by first | rfl | (simp; omega),S6.out⟩
 case rest =>
 obtain ⟨rfl,hS⟩:=hcut;have S7:Hid (DB w B sa len cap size ((PX,tuR u1)::K8 w pa pc p ba bo ca cb x) wc):=hS;clear hS S6 y1 yf1 p0;generalize wc=W7 at *;go_upto_if 45 with fail
 go_cut [] (fun wx=>∃ u,TcDr u∧DB w B sa len cap size ((PX,tuR u)::K8 w pa pc p ba bo ca cb x) wx)
 case first =>
  cases ins with
  | true =>
   go_wp2_with fail
   go_meet;exact ⟨_,Hu1.out,S7.out⟩
  | false =>
   obtain ⟨gp,op,hpa,hgp,-⟩:=(HPX.out w (World.grownBy.refl _ _)).at (k:=0) (by omega);subst hpa;go_upto_region 5 with fail
   clear hun;have hgB:gp≠B:=hpB' gp op rfl;refine wp_region_growXV (EB B) (fun wx=>DB w B sa len cap size ((PX,tuR u1)::K8 w (some ⟨gp,op,none⟩) pc p ba bo ca cb x) wx) [46,47,48,49,50,51,52,53,54,55] (by kernel_rfl) (by kernel_rfl) (S7.out.below bR.drew) ?_;iterate 6 (apply XChV.u xQ rfl;(·intro K' a wy ho hd hI hK;simp [rAt,IsV,slot,Region.binds] at ho hd;have p0:wy.cell? ⟨w.heap.size,0,none⟩=some (.slice (some ⟨gp,op,none⟩) p.addrs.length pc):=(show HoldsL wy (w.heap.size) (PlV (some ⟨gp,op,none⟩) pc p) from hI.at mE1).cell rfl;go_simp;(try go_bits);exact hK _ rfl);dsimp only [nA,cA])
   refine XChV.rel (n:=6) (XIx p.addrs.length) (st_XIx) [_,_,_,_,_,_,XIx p.addrs.length] rfl rfl ?_ ?_
   ·intro K' a wy ho hd hI hK;rw [wN rfl];have q2:=hd ⟨2,.data⟩ (by simp) rfl;have q5:=hd ⟨5,.data⟩ (by simp) rfl;simp [rAt,IsV,slot] at q2 q5;clear hd ho;go_simp;refine (drawN_any (p.addrs.length:Int) B sa len cap size wy (by omega) hl hI.dr.src).mono ?_;rintro e wz ⟨r,rfl,h0,h1,hsz,hgz⟩;obtain ⟨k,rfl⟩:=Int.eq_ofNat_of_zero_le h0;exact hK _ _ ⟨k,rfl,by omega⟩ hgz (hI.draw hsz hgz)
   refine XChV.rel (n:=7) (XAt B 4) (st_XAt) [_,_,_,_,_,_,_,XAt B 4] rfl rfl ?_ ?_
   ·intro K' a wy ho hd hI hK;rw [wN rfl];have q1:=hd ⟨1,.data⟩ (by simp) rfl;simp [rAt,IsV,slot] at q1;obtain ⟨k6,e6,u6⟩ : XIx p.addrs.length (slot a 52) wy:=hd ⟨6,.data⟩ (by simp) rfl;simp [slot] at e6;clear hd ho;have i0:(k6:Int) < (p.addrs.length:Int):=by omega
    obtain ⟨ss,hss,hzz⟩ : ∃ ss,wy.cell? ⟨gp,op+k6*1,none⟩=some (.string ss)∧ss.size≤4:=by
     obtain ⟨g9,o9,e9,_,hat⟩:=(HPX.out wy hI.dr.grown).at u6;injection e9 with e9
     injection e9 with e91 e92
     subst e91 e92;exact ⟨p.addrs[k6],by have h:=hat k6 u6 0 _ rfl; simpa using h,HPD.out.2.2 _ (List.getElem_mem _)⟩
    have hss':wy.cell? ⟨gp,op+k6,none⟩=some (.string ss):=by simpa using hss
    go_simp;exact hK _ _ ⟨gp,_,ss,rfl,hgB,by first | exact hss | exact hss',hzz⟩ (EB.of bR) hI
   refine XChV.rel (n:=8) (XTxt 4) (st_XTxt) [_,_,_,_,_,_,_,_,XTxt 4] rfl rfl ?_ ?_
   ·intro K' a wy ho hd hI hK;rw [wN rfl];obtain ⟨b7,k7,s7,e7,nb7,c7,z7⟩ : XAt B 4 (slot a 53) wy:=hd ⟨7,.data⟩ (by simp) rfl;simp [slot] at e7;clear hd ho;have p0:wy.cell? ⟨w.heap.size,0,none⟩=some (.slice (some ⟨gp,op,none⟩) p.addrs.length pc):=(show HoldsL wy (w.heap.size) (PlV (some ⟨gp,op,none⟩) pc p) from hI.at mE1).cell rfl;go_simp;exact hK _ _ ⟨s7,rfl,z7⟩ (EB.of bR) hI
   (apply XChV.u xQ rfl;(·intro K' a wy ho hd hI hK;simp [rAt,IsV,slot,Region.binds] at ho hd;go_simp;(try go_bits);exact hK _ rfl);dsimp only [nA,cA])
   intro X wz hR hI;obtain ⟨x0,x1,x2,x3,x4,x5,x6,x7,x8,x9,-⟩:=hR;obtain ⟨s8,e8,z8⟩:=x8;simp only [IsV] at x0 x1 x2 x3 x4 x5 x9;simp only [putsFrom,x0,x1,x2,x3,x4,x5,putsFrom,putsFrom,e8,x9];clear x0 x1 x2 x3 x4 x5 x9;have HHt:HoldsL wz PX (tuR u1):=hI.at mE0;have y2:=HHt.cell (j:=2) rfl;have yf2:=HHt.free (j:=2) (by simp);have S8:Hid _:=hI.set 2 (.string s8) rfl HNE.out;clear HHt hI;intro K5 hK5;go_simp;refine hK5 _ _ ?_;simp only [wpSeq];go_wp2_with fail
   go_meet;exact ⟨{ u1 with addr:=s8 },⟨by show s8.size≤1000; omega,Hu1.out.2⟩,S8.out⟩
 case rest =>
 obtain ⟨u2,hu,hS⟩:=hcut;have Hu2:Hid (TcDr u2):=hu;have S9:Hid (DB w B sa len cap size ((PX,tuR u2)::K8 w pa pc p ba bo ca cb x) wc):=hS;clear hu hS S7 Hu1 hpI;generalize wc=W9 at *;have HHb:HoldsL W9 (w.heap.size+1) (BbV ba ca bo cb x):=S9.out.at mE2;have b1:=HHb.cell (j:=1) rfl;clear HHb;go_upto_region 6 with fail
 go_cut [63] (fun v wx=>(∃ b,v=.bool b∧(b=true→0 < x.sess.length))∧DB w B sa len cap size ((PX,tuR u2)::K8 w pa pc p ba bo ca cb x) wx)
 case first =>
  by_cases hx0:0 < x.sess.length
  case neg =>
   have hxI:¬ (0:Int) < (x.sess.length:Int):=by omega
   have HXL:Hid (x.sess=[]):=List.length_eq_zero_iff.1 (by omega);clear hx0;go_wp2_with fail
   go_meet;exact ⟨⟨false,by first | rfl | simp [HXL.out],fun h=>by cases h⟩,S9.out⟩
  have hxI:(0:Int) < (x.sess.length:Int):=by omega
  go_wp2_with fail
  refine (drawOne_any 2 B sa len cap size _ (by omega) hl S9.out.dr.src).mono ?_;rintro e U9 ⟨c9,rfl,hs,hg⟩;have S10:Hid (DB w B sa len cap size ((PX,tuR u2)::K8 w pa pc p ba bo ca cb x) U9):=S9.out.draw hs hg;clear hs hg;go_wp2_with fail
  go_meet;exact ⟨⟨c9,rfl,fun _=>hx0⟩,S10.out⟩
 case rest =>
 obtain ⟨⟨c4,rfl,hc4⟩,hS⟩:=hcut;have S11:Hid (DB w B sa len cap size ((PX,tuR u2)::K8 w pa pc p ba bo ca cb x) wc):=hS;clear hS S9 b1;generalize wc=W11 at *;go_upto_if 63 with fail
 go_cut [] (fun wx=>∃ u,TcDr u∧DB w B sa len cap size ((PX,tuR u)::K8 w pa pc p ba bo ca cb x) wx)
 case first =>
  cases c4 with
  | false =>
   go_wp2_with fail
   go_meet;exact ⟨_,Hu2.out,S11.out⟩
  | true =>
   have hx0:0 < x.sess.length:=hc4 rfl;obtain ⟨gs,os,hpa,hgs,-⟩:=(HSX.out w (World.grownBy.refl _ _)).at (k:=0) hx0;subst hpa;have hgB:gs≠B:=hsB.elim (fun e=>by rw [e] at hx0; simp at hx0) (fun h=>h gs os rfl);clear hc4;go_upto_region 7 with fail
   try clear hun
   go_cut [8] (fun v wx=>∃ g s,v=.pointer (some ⟨g,0,none⟩)∧s∈x.sess∧g≠PX∧W11.heap.size≤g∧DB w B sa len cap size ((PX,tuR u2)::(g,(SsV s))::K8 w pa pc p ba (some ⟨gs,os,none⟩) ca cb x) wx)
   case first =>
    rename_i J K2 hJ hK2;refine wp_region_growXV (EB B) (fun wx=>DB w B sa len cap size ((PX,tuR u2)::K8 w pa pc p ba (some ⟨gs,os,none⟩) ca cb x) wx∧W11.heap.size≤wx.heap.size) [64,65,66,67,68,69,70,71,72,8] (by kernel_rfl) (by kernel_rfl) (⟨S11.out.below bR.drew,Nat.le_refl _⟩) ?_;iterate 6 (apply XChV.u xQ rfl;(·intro K' a wy ho hd hI hK;simp [rAt,IsV,slot,Region.binds] at ho hd;have b1:wy.cell? ⟨w.heap.size+1,1,none⟩=some (.slice (some ⟨gs,os,none⟩) x.sess.length cb):=(show HoldsL wy (w.heap.size+1) (BbV ba ca (some ⟨gs,os,none⟩) cb x) from hI.1.at mE2).cell rfl;go_simp;(try go_bits);exact hK _ rfl);dsimp only [nA,cA])
    refine XChV.rel (n:=6) (XIx x.sess.length) (st_XIx) [_,_,_,_,_,_,XIx x.sess.length] rfl rfl ?_ ?_
    ·intro K' a wy ho hd hI hK;rw [wN rfl];have q2:=hd ⟨2,.data⟩ (by simp) rfl;have q5:=hd ⟨5,.data⟩ (by simp) rfl;simp [rAt,IsV,slot] at q2 q5;clear hd ho;go_simp;refine (drawN_any (x.sess.length:Int) B sa len cap size wy (by omega) hl hI.1.dr.src).mono ?_;rintro e wz ⟨r,rfl,h0,h1,hsz,hgz⟩;obtain ⟨k,rfl⟩:=Int.eq_ofNat_of_zero_le h0;exact hK _ _ ⟨k,rfl,by omega⟩ hgz ⟨hI.1.draw hsz hgz,Nat.le_trans hI.2 hgz.size⟩
    refine XChV.rel (n:=7) (XPtr B x.sess) (st_XPtr _ _) [_,_,_,_,_,_,_,XPtr B x.sess] rfl rfl ?_ ?_
    ·intro K' a wy ho hd hI hK;rw [wN rfl];have q1:=hd ⟨1,.data⟩ (by simp) rfl;simp [rAt,IsV,slot] at q1;obtain ⟨k6,e6,u6⟩ : XIx x.sess.length (slot a 70) wy:=hd ⟨6,.data⟩ (by simp) rfl;simp [slot] at e6;clear hd ho;have i0:(k6:Int) < (x.sess.length:Int):=by omega
     have hpt:∀ j u,(ssL x.sess[k6])[j]?=some u→wy.cell? ⟨gs,os+k6*7+j,none⟩=some u:=by
      obtain ⟨g9,o9,e9,_,hat⟩:=(HSX.out wy hI.1.dr.grown).at u6;injection e9 with e9
      injection e9 with e91 e92
      subst e91 e92;exact fun j u hu=>hat k6 u6 j u hu
     go_simp;exact hK _ _ ⟨gs,_,x.sess[k6],List.getElem_mem _,rfl,hgB,hpt⟩ (EB.of bR) hI
    refine XChV.rel (n:=8) (XSs 0 B x.sess) (st_XSs _ _ _) [_,_,_,_,_,_,_,_,XSs 0 B x.sess] rfl rfl ?_ ?_
    ·intro K' a wy ho hd hI hK;rw [wN rfl];obtain ⟨b7,o7,s7,m7,e7,nb7,c7⟩ : XPtr B x.sess (slot a 71) wy:=hd ⟨7,.data⟩ (by simp) rfl;simp [slot] at e7;clear hd ho;have b1:wy.cell? ⟨w.heap.size+1,1,none⟩=some (.slice (some ⟨gs,os,none⟩) x.sess.length cb):=(show HoldsL wy (w.heap.size+1) (BbV ba ca (some ⟨gs,os,none⟩) cb x) from hI.1.at mE2).cell rfl;obtain ⟨d0,d1,d2,d3,d4,d5,d6⟩:=rc7 c7;go_simp;exact hK _ _ ⟨s7,m7,rfl⟩ (EB.of bR) hI
    refine XChV.rel (n:=9) (XBox W11.drew.heap.size B (SsR 0 ⟨#[]⟩ 0 ⟨#[]⟩ 0 0 0)) (st_XBox (by simp)) [_,_,_,_,_,_,_,_,_,XBox W11.drew.heap.size B (SsR 0 ⟨#[]⟩ 0 ⟨#[]⟩ 0 0 0)] rfl rfl ?_ ?_
    ·intro K' a wy ho hd hI hK;rw [wN rfl];clear hd ho;go_simp;exact hK _ _ ⟨wy.heap.size,rfl,hI.2,by have:=hI.1.dr.le; omega,HoldsL.new wy (SsR 0 ⟨#[]⟩ 0 ⟨#[]⟩ 0 0 0) _⟩ (EB.of (bR.alloc lR _)) ⟨hI.1.below (bR.alloc lR _),by simp; omega⟩
    intro X wz hR hI;obtain ⟨x0,x1,x2,x3,x4,x5,x6,x7,x8,x9,-⟩:=hR;obtain ⟨s8,m8,e8⟩:=x8;obtain ⟨g9,e9,n9,nb9,c9⟩:=x9;simp only [IsV] at x0 x1 x2 x3 x4 x5;simp only [putsFrom,x0,x1,x2,x3,x4,x5,putsFrom,putsFrom,e8,e9];clear x0 x1 x2 x3 x4 x5;have n9':W11.heap.size≤g9:=n9;have hle:w.heap.size≤W11.heap.size:=S11.out.dr.le;have hlt:=S11.out.lts;obtain ⟨z0,z1,z2,z3,z4,z5,z6⟩:=c9.c7;obtain ⟨zf0,zf1,zf2,zf3,zf4,zf5,zf6⟩:=c9.f7;have hD0:DB w B sa len cap size ((g9,(SsR 0 ⟨#[]⟩ 0 ⟨#[]⟩ 0 0 0))::((PX,tuR u2)::K8 w pa pc p ba (some ⟨gs,os,none⟩) ca cb x)) wz:=⟨hI.1.dr,fun e he=>(List.mem_cons.1 he).elim (fun h=>by rw [h]; exact c9) (hI.1.k e),fun e he=>(List.mem_cons.1 he).elim (fun h=>by rw [h]; simp) (hI.1.z e),fun e he=>(List.mem_cons.1 he).elim (fun h=>by rw [h]; show w.heap.size≤g9; omega) (hI.1.n e)⟩;have hne9:∀ e∈(((PX,tuR u2)::K8 w pa pc p ba (some ⟨gs,os,none⟩) ca cb x):List (Nat × List Value)),e.1≠g9:=fun e he=>by have:=hlt e he; omega
    have hD1:=hD0.set (vs':=(SsR s8.proto ⟨#[]⟩ 0 ⟨#[]⟩ 0 0 0)) 0 (iV s8.proto) rfl hne9;have hD2:=hD1.set (vs':=(SsR s8.proto s8.inn 0 ⟨#[]⟩ 0 0 0)) 1 (.string s8.inn) rfl hne9;have hD3:=hD2.set (vs':=(SsR s8.proto s8.inn s8.inPort ⟨#[]⟩ 0 0 0)) 2 (iV s8.inPort) rfl hne9;have hD4:=hD3.set (vs':=(SsR s8.proto s8.inn s8.inPort s8.peer 0 0 0)) 3 (.string s8.peer) rfl hne9;have hD5:=hD4.set (vs':=(SsR s8.proto s8.inn s8.inPort s8.peer s8.peerPort 0 0)) 4 (iV s8.peerPort) rfl hne9;have hD6:=hD5.set (vs':=(SsR s8.proto s8.inn s8.inPort s8.peer s8.peerPort s8.state 0)) 5 (iV s8.state) rfl hne9;have hD7:=hD6.set (vs':=(SsV s8)) 6 (iV s8.untl) rfl hne9;have HD:Hid (DB w B sa len cap size ((PX,tuR u2)::(g9,(SsV s8))::K8 w pa pc p ba (some ⟨gs,os,none⟩) ca cb x) ((sW (sW (sW (sW (sW (sW wz g9 0 (iV s8.proto)) g9 1 (.string s8.inn)) g9 2 (iV s8.inPort)) g9 3 (.string s8.peer)) g9 4 (iV s8.peerPort)) g9 5 (iV s8.state)).setCell ⟨g9,6,none⟩ (iV s8.untl))):=hD7.swap;have hgX:g9≠PX:=fun e=>by have:=hlt _ (List.mem_cons_self ..); simp at this; omega
    clear hD1 hD2 hD3 hD4 hD5 hD6 hD7 hD0 hne9 c9 hI hlt;unfold ssC;intro K5 hK5;go_simp;refine hK5 _ _ ?_;show Exit.then _ _ _ _ _;refine hK2 _ _ (hJ _ _ ?_);(repeat apply Exists.intro)
    exact ⟨⟨g9,s8,rfl,m8,hgX,n9',HD.out⟩,rfl⟩
   case rest =>
   obtain ⟨Bs,s,rfl,hsm,hBsX,-,hS⟩:=hcut;have S12:Hid (DB w B sa len cap size ((PX,tuR u2)::(Bs,(SsV s))::K8 w pa pc p ba (some ⟨gs,os,none⟩) ca cb x) wc):=hS;clear hS S11;generalize wc=W12 at *;have HSD:Hid (SsDr s):=HBD.out.2.2.2 s hsm;clear hsm;have HHs:HoldsL W12 Bs (SsV s):=S12.out.at mE1;obtain ⟨s0,s1,s2,s3,s4,s5,s6⟩:=HHs.c7;clear HHs;have HHb:HoldsL W12 (w.heap.size+1) (BbV ba ca (some ⟨gs,os,none⟩) cb x):=S12.out.at mE3;obtain ⟨b0,b1⟩:=HHb.c2;clear HHb;have HB2:Hid _:=HB.out s W12 S12.out.dr.grown;go_wp2_with fail
   refine Calls.mono HB2.out ?_;rintro e W13 ⟨o,ho,rfl,q13⟩;have HOD:Hid (BdDr o):=ho;have S13:Hid (DB w B sa len cap size ((PX,tuR u2)::(Bs,(SsV s))::K8 w pa pc p ba (some ⟨gs,os,none⟩) ca cb x) W13):=S12.out.below q13;clear ho q13 S12 HB2 b0 b1 s0 s1 s2 s3 s4 s5 s6;go_upto_region 9 with fail
   have hBo:PX≠W13.heap.size:=by have:=S13.out.lts _ (List.mem_cons_self ..); simp at this; omega
   have S14:Hid (DB w B sa len cap size ((PX,tuR u2)::(Bs,(SsV s))::(W13.heap.size,(BdV o))::K8 w pa pc p ba (some ⟨gs,os,none⟩) ca cb x) (W13.alloc (.cells (BdV o).toArray 48))):=by
    have h:=S13.out.push (BdV o) (by simp) 48;refine h.sub (fun e he=>?_);rcases List.mem_cons.1 he with h1 | he
    ·exact .tail _ (h1 ▸ .head _)
    rcases List.mem_cons.1 he with h1 | he
    ·exact .tail _ (.tail _ (h1 ▸ .head _))
    rcases List.mem_cons.1 he with h1 | he
    ·exact h1 ▸ .head _
    ·exact .tail _ (.tail _ (.tail _ he))
   generalize (W13.alloc (.cells (BdV o).toArray 48))=W14 at *;generalize W13.heap.size=Bo at *;clear S13;have HNE2:Hid (∀ e∈(((Bs,(SsV s))::(Bo,(BdV o))::K8 w pa pc p ba (some ⟨gs,os,none⟩) ca cb x):List (Nat × List Value)),e.1≠PX):=fun e he=>by
    rcases List.mem_cons.1 he with h1 | he
    ·rw [h1]; exact hBsX
    rcases List.mem_cons.1 he with h1 | he
    ·rw [h1]; exact hBo.symm
    ·exact HNE.out e he
   have HHs:HoldsL W14 Bs (SsV s):=S14.out.at mE1;obtain ⟨s0,s1,s2,s3,s4⟩:=HHs.c5;clear HHs;have HHt:HoldsL W14 PX (tuR u2):=S14.out.at mE0;obtain ⟨y0,-,y2,y3,y4,y5⟩:=HHt.c6;obtain ⟨yf0,-,yf2,yf3,yf4,yf5⟩:=HHt.f6;clear HHt;have hD0:=(S14.out).set (vs':=(TcR s.proto u2.inside u2.addr u2.port u2.peer u2.peerPort u2.flags)) 0 (iV s.proto) rfl HNE2.out;have hD2:=(hD0).set (vs':=(TcR s.proto u2.inside s.inn u2.port u2.peer u2.peerPort u2.flags)) 2 (.string s.inn) rfl HNE2.out;have hD3:=(hD2).set (vs':=(TcR s.proto u2.inside s.inn s.inPort u2.peer u2.peerPort u2.flags)) 3 (iV s.inPort) rfl HNE2.out;have hD4:=(hD3).set (vs':=(TcR s.proto u2.inside s.inn s.inPort s.peer u2.peerPort u2.flags)) 4 (.string s.peer) rfl HNE2.out;have hD5:=(hD4).set (vs':=(TcR s.proto u2.inside s.inn s.inPort s.peer s.peerPort u2.flags)) 5 (iV s.peerPort) rfl HNE2.out;obtain ⟨u3,hu3⟩ : ∃ u:Tc,u={ u2 with proto:=s.proto,addr:=s.inn,port:=s.inPort,peer:=s.peer,peerPort:=s.peerPort }:=⟨_,rfl⟩;have S15:Hid (DB w B sa len cap size ((PX,tuR u3)::(Bs,(SsV s))::(Bo,(BdV o))::K8 w pa pc p ba (some ⟨gs,os,none⟩) ca cb x) ((sW (sW (sW (sW W14 PX 0 (iV s.proto)) PX 2 (.string s.inn)) PX 3 (iV s.inPort)) PX 4 (.string s.peer)).setCell ⟨PX,5,none⟩ (iV s.peerPort))):=by unfold Hid; rw [hu3]; exact hD5
   have Hu3:Hid (TcDr u3):=by unfold Hid; rw [hu3]; exact ⟨HSD.out.1,HSD.out.2.1,HSD.out.2.2.1⟩
   have hpp:u3.peerPort=s.peerPort:=by rw [hu3]
   have HPP:Hid (inR u3.peerPort):=by unfold Hid; rw [hpp]; exact HSD.out.2.2.2.2
   clear hD0 hD2 hD3 hD4 hD5 hu3 hpp S14;go_upto_region 14 with fail
   generalize ((sW (sW (sW (sW W14 PX 0 (iV s.proto)) PX 2 (.string s.inn)) PX 3 (iV s.inPort)) PX 4 (.string s.peer)).setCell ⟨PX,5,none⟩ (iV s.peerPort))=W15 at *;clear y0 yf0 y2 yf2 y3 yf3 y4 yf4 y5 yf5 s0 s1 s2 s3 s4 Hu2;have HHt:HoldsL W15 PX (tuR u3):=S15.out.at mE0;have y1:=HHt.cell (j:=1) rfl;have yf1:=HHt.free (j:=1) (by simp);clear HHt;obtain ⟨ins,hin⟩ : ∃ b,b=u3.inside:=⟨_,rfl⟩;rw [← hin] at y1;clear hin
   cases ins with
   | true =>
    have S16:Hid (DB w B sa len cap size ((PX,tuR u3)::K8 w pa pc p ba (some ⟨gs,os,none⟩) ca cb x) W15):=S15.out.sub (fun e he=>by
     rcases List.mem_cons.1 he with h1 | he
     ·exact h1 ▸ .head _
     ·exact .tail _ (.tail _ (.tail _ he)))
    go_wp2_with fail
    go_meet;exact ⟨u3,Hu3.out,S16.out⟩
   | false =>
    have HHo:HoldsL W15 Bo (BdV o):=S15.out.at mE2;obtain ⟨-,-,-,o3,o4⟩:=HHo.c5;clear HHo;have HHt:HoldsL W15 PX (tuR u3):=S15.out.at mE0;obtain ⟨-,-,y2,y3⟩:=HHt.c4;obtain ⟨-,-,yf2,yf3⟩:=HHt.f4;clear HHt;have hD2:=S15.out.set (vs':=(TcR u3.proto u3.inside o.out u3.port u3.peer u3.peerPort u3.flags)) 2 (.string o.out) rfl HNE2.out;have hD3:=hD2.set (vs':=(TcR u3.proto u3.inside o.out o.outPort u3.peer u3.peerPort u3.flags)) 3 (iV o.outPort) rfl HNE2.out;obtain ⟨u4,hu4⟩ : ∃ u:Tc,u={ u3 with addr:=o.out,port:=o.outPort }:=⟨_,rfl⟩;have S16:Hid (DB w B sa len cap size ((PX,tuR u4)::K8 w pa pc p ba (some ⟨gs,os,none⟩) ca cb x) ((sW W15 PX 2 (.string o.out)).setCell ⟨PX,3,none⟩ (iV o.outPort))):=by unfold Hid; rw [hu4]; exact hD3.sub (fun e he=>by
      rcases List.mem_cons.1 he with h1 | he
      ·exact h1 ▸ .head _
      ·exact .tail _ (.tail _ (.tail _ he)))
    have Hu4:Hid (TcDr u4):=by unfold Hid; rw [hu4]; exact ⟨HOD.out.2.1,Hu3.out.2⟩
    have hpp:u4.peerPort=u3.peerPort:=by rw [hu4]
    have HPQ:Hid (inR u4.peerPort):=by unfold Hid; rw [hpp]; exact HPP.out
    clear hD2 hD3 hu4 hpp S15;go_upto_region 17 with fail
    generalize ((sW W15 PX 2 (.string o.out)).setCell ⟨PX,3,none⟩ (iV o.outPort))=W16 at *;clear o3 o4 y2 yf2 y3 yf3;go_wp2_with fail
    refine (drawOne_any 3 B sa len cap size _ (by omega) hl S16.out.dr.src).mono ?_;rintro e U9 ⟨c9,rfl,hs,hg⟩;have S17:Hid (DB w B sa len cap size ((PX,tuR u4)::K8 w pa pc p ba (some ⟨gs,os,none⟩) ca cb x) U9):=S16.out.draw hs hg;clear hs hg S16
    cases c9 with
    | false =>
     go_wp2_with fail
     go_meet;exact ⟨_,Hu4.out,S17.out⟩
    | true =>
     have HHt:HoldsL U9 PX (tuR u4):=S17.out.at mE0;have y5:=HHt.cell (j:=5) rfl;have yf5:=HHt.free (j:=5) (by simp);clear HHt;have hw:IntKind.i64.wrap (u4.peerPort+1)=u4.peerPort+1:=by have:=HPQ.out; unfold inR at this; rw [IntKind.wrap_i64]; omega
     have S18:Hid _:=S17.out.set 5 (iV (u4.peerPort+1)) rfl HNE.out;go_wp2_with fail
     go_meet;exact ⟨{ u4 with peerPort:=u4.peerPort+1 },Hu4.out,S18.out⟩
 case rest =>
 obtain ⟨u5,hu,hS⟩:=hcut;have Hu5:Hid (TcDr u5):=hu;have S20:Hid (DB w B sa len cap size ((PX,tuR u5)::K8 w pa pc p ba bo ca cb x) wc):=hS;clear hu hS S11 Hu2 hc4;generalize wc=W20 at *;go_wp2_with fail
 refine (drawOne_any 25 B sa len cap size _ (by omega) hl S20.out.dr.src).mono ?_;rintro e W21 ⟨c21,rfl,hs,hg⟩;have S21:Hid (DB w B sa len cap size ((PX,tuR u5)::K8 w pa pc p ba bo ca cb x) W21):=S20.out.draw hs hg;clear hs hg S20;go_upto_if 112 with fail
 go_cut [] (fun wx=>∃ u,TcDr u∧DB w B sa len cap size ((PX,tuR u)::K8 w pa pc p ba bo ca cb x) wx)
 case first =>
  cases c21 with
  | false =>
   go_wp2_with fail
   go_meet;exact ⟨_,Hu5.out,S21.out⟩
  | true =>
   go_wp2_with fail
   refine (drawN_more 4 B sa len cap size _ (by omega) (by omega) hl S21.out.dr.src).mono ?_;rintro e W22 ⟨r5,rfl,lo5,hi5,hs,hg⟩;have S22:Hid (DB w B sa len cap size ((PX,tuR u5)::K8 w pa pc p ba bo ca cb x) W22):=S21.out.draw hs hg;clear hs hg S21;by_cases d0:r5=0
   case pos =>
    subst d0;clear lo5 hi5;go_wp2_with fail
    refine (drawAny_any B sa len cap size _ hl S22.out.dr.src).mono ?_;rintro e W23 ⟨s9,rfl,hz9,hs,hg⟩;have S23:Hid (DB w B sa len cap size ((PX,tuR u5)::K8 w pa pc p ba bo ca cb x) W23):=S22.out.draw hs hg;clear hs hg;have HHt:HoldsL W23 PX (tuR u5):=S23.out.at mE0;have y2:=HHt.cell (j:=2) rfl;have yf2:=HHt.free (j:=2) (by simp);clear HHt;have S24:Hid _:=S23.out.set 2 (.string s9) rfl HNE.out;go_wp2_with fail
    go_meet;exact ⟨{ u5 with addr:=s9 },⟨by show s9.size≤1000; omega,Hu5.out.2⟩,S24.out⟩
   have b0:(r5==0)=false:=by simp [d0]
   by_cases d1:r5=1
   case pos =>
    subst d1;clear lo5 hi5;go_wp2_with fail
    refine (drawNum_any B sa len cap size _ hl S22.out.dr.src).mono ?_;rintro e W23 ⟨r9,rfl,hs,hg⟩;have S23:Hid (DB w B sa len cap size ((PX,tuR u5)::K8 w pa pc p ba bo ca cb x) W23):=S22.out.draw hs hg;clear hs hg;have HHt:HoldsL W23 PX (tuR u5):=S23.out.at mE0;have y3:=HHt.cell (j:=3) rfl;have yf3:=HHt.free (j:=3) (by simp);clear HHt;have S24:Hid _:=S23.out.set 3 (iV r9) rfl HNE.out;go_wp2_with fail
    go_meet;exact ⟨{ u5 with port:=r9 },Hu5.out,S24.out⟩
   have b1:(r5==1)=false:=by simp [d1]
   by_cases d2:r5=2
   case pos =>
    subst d2;clear lo5 hi5;go_wp2_with fail
    refine (drawAddr_any true B sa len cap size _ hl S22.out.dr.src).mono ?_;rintro e W23 ⟨s9,rfl,hz9,hs,hg⟩;have S23:Hid (DB w B sa len cap size ((PX,tuR u5)::K8 w pa pc p ba bo ca cb x) W23):=S22.out.draw hs hg;clear hs hg;have HHt:HoldsL W23 PX (tuR u5):=S23.out.at mE0;have y4:=HHt.cell (j:=4) rfl;have yf4:=HHt.free (j:=4) (by simp);clear HHt;have S24:Hid _:=S23.out.set 4 (.string s9) rfl HNE.out;go_wp2_with fail
    go_meet;exact ⟨{ u5 with peer:=s9 },⟨Hu5.out.1,by show s9.size≤1000; rw [hz9]; decide,Hu5.out.2.2⟩,S24.out⟩
   have b2:(r5==2)=false:=by simp [d2]
   go_wp2_with fail
   refine (drawNum_any B sa len cap size _ hl S22.out.dr.src).mono ?_;rintro e W23 ⟨r9,rfl,hs,hg⟩;have S23:Hid (DB w B sa len cap size ((PX,tuR u5)::K8 w pa pc p ba bo ca cb x) W23):=S22.out.draw hs hg;clear hs hg;have HHt:HoldsL W23 PX (tuR u5):=S23.out.at mE0;have y5:=HHt.cell (j:=5) rfl;have yf5:=HHt.free (j:=5) (by simp);clear HHt;have S24:Hid _:=S23.out.set 5 (iV r9) rfl HNE.out;go_wp2_with fail
   go_meet;exact ⟨{ u5 with peerPort:=r9 },Hu5.out,S24.out⟩
 case rest =>
 obtain ⟨u6,hu,hS⟩:=hcut;have Hu6:Hid (TcDr u6):=hu;have S25:Hid (DB w B sa len cap size ((PX,tuR u6)::K8 w pa pc p ba bo ca cb x) wc):=hS;clear hu hS S21 Hu5;generalize wc=W25 at *;have HHt:HoldsL W25 PX (tuR u6):=S25.out.at mE0;obtain ⟨y0,y1,y2,y3,y4,y5,y6⟩:=HHt.c7;obtain ⟨yf0,yf1,yf2,yf3,yf4,yf5,yf6⟩:=HHt.f7;clear HHt;clear yf0 yf1 yf2 yf3 yf4 yf5 yf6;have HHz:HoldsL W25 (w.heap.size+1+1) (TcR 0 false ⟨#[]⟩ 0 ⟨#[]⟩ 0 0):=S25.out.at mE3;obtain ⟨z0,z1,z2,z3,z4,z5,z6⟩:=HHz.c7;obtain ⟨zf0,zf1,zf2,zf3,zf4,zf5,zf6⟩:=HHz.f7;have HRR:Hid (HoldsL ((sW (sW (sW (sW (sW (sW W25 (w.heap.size+1+1) 0 (iV u6.proto)) (w.heap.size+1+1) 1 (.bool u6.inside)) (w.heap.size+1+1) 2 (.string u6.addr)) (w.heap.size+1+1) 3 (iV u6.port)) (w.heap.size+1+1) 4 (.string u6.peer)) (w.heap.size+1+1) 5 (iV u6.peerPort)).setCell ⟨w.heap.size+1+1,6,none⟩ (iV u6.flags)) (w.heap.size+1+1) (tuR u6)):=(((((((HHz.set 0 (iV u6.proto)).set 1 (.bool u6.inside)).set 2 (.string u6.addr)).set 3 (iV u6.port)).set 4 (.string u6.peer)).set 5 (iV u6.peerPort)).set 6 (iV u6.flags));have DD:Hid (Dr w B sa len cap size ((sW (sW (sW (sW (sW (sW W25 (w.heap.size+1+1) 0 (iV u6.proto)) (w.heap.size+1+1) 1 (.bool u6.inside)) (w.heap.size+1+1) 2 (.string u6.addr)) (w.heap.size+1+1) 3 (iV u6.port)) (w.heap.size+1+1) 4 (.string u6.peer)) (w.heap.size+1+1) 5 (iV u6.peerPort)).setCell ⟨w.heap.size+1+1,6,none⟩ (iV u6.flags))):=(((((((S25.out.dr.set (w.heap.size+1+1) 0 (iV u6.proto) (by omega)).set (w.heap.size+1+1) 1 (.bool u6.inside) (by omega)).set (w.heap.size+1+1) 2 (.string u6.addr) (by omega)).set (w.heap.size+1+1) 3 (iV u6.port) (by omega)).set (w.heap.size+1+1) 4 (.string u6.peer) (by omega)).set (w.heap.size+1+1) 5 (iV u6.peerPort) (by omega)).set (w.heap.size+1+1) 6 (iV u6.flags) (by omega));clear HHz S25;go_wp2_with fail
 exact bodyPost_ret (results_mid Tryz.results55 _ _ _ _ _ rfl HRR.out Tryz.underlying89 rfl (show (Tryz.prog.info? 89).map (·.size)=some 7 by kernel_rfl)) rfl ⟨u6,rfl,Hu6.out,DD.out.src,DD.out.grown⟩
end Go.Proofs.YtdkepkaflielhaaGreatDoor
