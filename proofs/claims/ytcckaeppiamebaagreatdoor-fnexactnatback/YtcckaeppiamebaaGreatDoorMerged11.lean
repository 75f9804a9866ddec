import Derived.Test.YtcckaeppiamebaaGreatDoorAb
import Derived.Test.YtcckaeppiamebaaGreatDoorMerged10
import Derived.Test.YtcckaeppiamebaaGreatDoorMerged8
import Derived.Test.YtcckaeppiamebaaGreatDoorMerged9
import Derived.Test.YtcckaeppiamebaaGreatDoorMerged5
import Derived.Test.YtcckaeppiamebaaGreatDoorMerged4
set_option linter.unusedVariables false
set_option linter.unusedSimpArgs false
set_option maxRecDepth 100000
set_option maxHeartbeats 8000000
namespace Go.Proofs.YtcckaeppiamebaaGreatDoor
open Go.RowKit Go.PlainAid
theorem spGo_any (pa:Option Addr) (pc:Nat) (p:Pl) (ba bo:Option Addr) (ca cb:Nat) (x:Bb) (t:Tc) (now:Int) (w:World) (hpo:poolOk p=true) (hnow:isTime now=true) (hta:t.addr.size≤1048576) (h0:0≤t.port) (h1:t.port≤65535) (hl1:x.binds.length≤1048576) (hl2:x.sess.length≤1048576) (hp:SlIs strL1 1 w pa p.addrs) (hx:BbIs w ba bo x) :
  Calls Tryz.prog 85 #[plC pa pc p,bbC ba bo ca cb x,tcC t,iV now] w fun e w'=>BoRet w.heap.size (goV p x t now) e w'∧Below w.heap.size w w':=by
 obtain ⟨proto,inside,addr,port,peer,peerPort,flags⟩:=t;dsimp only at hta h0 h1;have hn:0≤now∧now≤1000000000:=by have h:=hnow; unfold isTime isIn at h; simp only [Bool.and_eq_true,decide_eq_true_iff] at h; omega
 obtain ⟨hn0,hn1⟩:=hn;have HB1:Hid (∀ W,Below w.heap.size w W→Cb 122 #[.agg (BbV ba ca bo cb x).toArray,iV proto,.string addr,iV port] W (iV (findI (ofIn proto addr port) x.binds))):=fun W hW=>spBind_any x.binds proto addr port ba ca _ W hl1 (hx.bd.below hW)
 have HB2:Hid (∀ W,Below w.heap.size w W→Cb 123 #[.agg (BbV ba ca bo cb x).toArray,iV proto,.string addr,iV port] W (iV (findI (ofOut proto addr port) x.binds))):=fun W hW=>spAt_any x.binds proto addr port ba ca _ W hl1 (hx.bd.below hW)
 have HSS:Hid (∀ (c:Bd) (W:World),Below w.heap.size w W→Cb 125 #[.agg (BbV ba ca bo cb x).toArray,.agg (BdV c).toArray,.string peer,iV peerPort] W (iV (findI (withP c peer peerPort) x.sess))):=fun c W hW=>spSession_any x c peer peerPort ba bo ca cb W hl2 (hx.below hW)
 have HKN:Hid (∀ (c:Bd) (W:World),Below w.heap.size w W→Cb 126 #[.agg (BbV ba ca bo cb x).toArray,.agg (BdV c).toArray,.string peer] W (.bool (x.sess.any (withA c peer)))):=fun c W hW=>spKnows_any x c peer ba bo ca cb W hl2 (hx.below hW)
 have HCY:Hid (∀ W,Below w.heap.size w W→Calls Tryz.prog 127 #[.agg (BbV ba ca bo cb x).toArray] W fun e w'=>CopyRet W.heap.size x e w'∧Below W.heap.size W w'):=fun W hW=>spCopy_any x ba bo ca cb W hl1 hl2 (hx.below hW)
 have HNX:Hid (∀ (st:Int) (W:World),Cb 128 #[iV proto,iV st,.bool inside,iV flags] W (iV (trackNextV proto st inside flags))):=fun st W=>(specNext_any proto st inside flags W).mono (by rintro e w' ⟨rfl,rfl⟩; exact ⟨rfl,Below.refl _ _⟩)
 have HLF:Hid (∀ (st:Int) (W:World),Cb 129 #[.agg #[iV p.lv.udp,iV p.lv.echo,iV p.lv.opening,iV p.lv.opn,iV p.lv.closing],iV proto,iV st] W (iV (trackLifeV p.lv proto st))):=fun st W=>specLife_any p.lv proto st W
 have HNW:Hid (∀ (c:Bd) (W:World),Below w.heap.size w W→Calls Tryz.prog 124 #[.agg (PlV pa pc p).toArray,.agg (BbV ba ca bo cb x).toArray,.agg (TcR proto inside addr port peer peerPort flags).toArray,bdC c,iV now] W fun e w'=>BoRet W.heap.size (newV p x ⟨proto,inside,addr,port,peer,peerPort,flags⟩ c now) e w'∧Below W.heap.size W w'):=fun c W hW=>spNew_any pa pc p ba bo ca cb x ⟨proto,inside,addr,port,peer,peerPort,flags⟩ c now W hpo hnow hta h0 h1 hl1 hl2 (hp.below hW) (hx.below hW)
 obtain ⟨g,hg⟩ : ∃ g,g=(if inside=true then ofIn proto addr port else ofOut proto addr port):=⟨_,rfl⟩;have HG:Hid (g=(if inside=true then ofIn proto addr port else ofOut proto addr port)):=hg;have HV:Hid (goV p x ⟨proto,inside,addr,port,peer,peerPort,flags⟩ now=match x.binds.find? g with
  | none=>if inside=true then newV p x ⟨proto,inside,addr,port,peer,peerPort,flags⟩ bdZ now else boE 6
  | some c=>match x.sess.findIdx? (withP c peer peerPort) with
   | none=>if goneB p x ⟨proto,inside,addr,port,peer,peerPort,flags⟩ c=true then boE 6 else newV p x ⟨proto,inside,addr,port,peer,peerPort,flags⟩ c now
   | some i=>⟨⟨x.binds,setN x.sess i (nextS p ⟨proto,inside,addr,port,peer,peerPort,flags⟩ now)⟩,c,0⟩):=by rw [hg]; rfl
 generalize goV p x ⟨proto,inside,addr,port,peer,peerPort,flags⟩ now=ans at *;have HSX:Hid (BbIs w ba bo x):=hx;have hun:undef=Value.tuple #[]:=rfl;have hRw:w.heap.size≤w.heap.size+1+1+1:=by omega
 have HS0:=bx4 w (PlV pa pc p) 48 (BbV ba ca bo cb x) 39 (TcR proto inside addr port peer peerPort flags) 112 [.slice none 0 0,.slice none 0 0,iV 0,.string ⟨#[]⟩,iV 0,.string ⟨#[]⟩,iV 0,iV 0] 96 (by simp) (by simp) (by simp) (by simp)
 clear hp hx hpo hnow hg;unfold plC bbC tcC;go_enter Tryz.func85,Tryz.ntmps85
 go_upto_region 1 with fail
 generalize ((aW (aW (aW w (PlV pa pc p) 48) (BbV ba ca bo cb x) 39) (TcR proto inside addr port peer peerPort flags) 112).alloc (.cells #[.slice none 0 0,.slice none 0 0,iV 0,.string ⟨#[]⟩,iV 0,.string ⟨#[]⟩,iV 0,iV 0] 96))=W at *;have HHt:=HS0.out.at mE2;obtain ⟨t0,t1,t2,t3,t4,t5,t6⟩:=HHt.c7;clear HHt;have HHb:=HS0.out.at mE1;obtain ⟨b0,b1⟩:=HHb.c2;clear HHb;go_wp2_with fail
 refine (HB1.out _ HS0.out.b).mono ?_;rintro e W1 ⟨rfl,q1⟩;have S1:Hid _:=HS0.out.kept q1;clear q1 HS0 b0 b1 t0 t1 t2 t3 t4 t5 t6;have HHt:=S1.out.at mE2;obtain ⟨t0,t1,t2,t3,t4,t5,t6⟩:=HHt.c7;clear HHt;go_upto_if 24 with fail
 go_cut [9] (fun v wx=>v=iV (findI g x.binds)∧Bxs w [(w.heap.size,(PlV pa pc p)),(w.heap.size+1,(BbV ba ca bo cb x)),(w.heap.size+1+1,(TcR proto inside addr port peer peerPort flags)),(w.heap.size+1+1+1,[.slice none 0 0,.slice none 0 0,iV 0,.string ⟨#[]⟩,iV 0,.string ⟨#[]⟩,iV 0,iV 0])] wx)
 case first =>
  clear HV HNW HSS HKN HCY HNX HLF
  cases inside with
  | true =>
   have hg:g=ofIn proto addr port:=by rw [HG.out]; rfl
   go_wp2_with fail
   go_meet;exact ⟨by rw [hg],S1.out⟩
  | false =>
   have hg:g=ofOut proto addr port:=by rw [HG.out]; rfl
   have HHb:=S1.out.at mE1;obtain ⟨b0,b1⟩:=HHb.c2;clear HHb;go_wp2_with fail
   refine (HB2.out _ S1.out.b).mono ?_;rintro e W2 ⟨rfl,q2⟩;have S2:Hid _:=S1.out.kept q2;clear q2;go_wp2_with fail
   go_meet;exact ⟨by rw [hg],S2.out⟩
 case rest =>
 obtain ⟨rfl,hS⟩:=hcut;have S3:Hid _:=hS;clear hS S1 HB1 HB2 t0 t1 t2 t3 t4 t5 t6;generalize wc=W3 at *
 cases hfi:x.binds.findIdx? g with
 | none =>
  have hk:findI g x.binds=-1:=by unfold findI; rw [hfi]
  rw [idx_none hfi] at HV;have HW:Hid (ans=if inside=true then newV p x ⟨proto,inside,addr,port,peer,peerPort,flags⟩ bdZ now else boE 6):=HV.out;clear HV hfi HG;rw [hk];clear hk
  cases inside with
  | false =>
   have HHt:=S3.out.at mE2;obtain ⟨t0,t1,t2,t3,t4,t5,t6⟩:=HHt.c7;clear HHt;have HX:Hid (ans=boE (6)):=by unfold Hid; rw [HW.out]; rfl
   have HHz:=S3.out.at mE3;obtain ⟨z0,z1,z2,z3,z4,z5,z6,z7⟩:=HHz.c8;obtain ⟨zf0,zf1,zf2,zf3,zf4,zf5,zf6,zf7⟩:=HHz.f8;have HRR:Hid (HoldsL ((sW (sW (sW (sW (sW (sW (sW W3 (w.heap.size+1+1+1) 0 (.slice none 0 0)) (w.heap.size+1+1+1) 1 (.slice none 0 0)) (w.heap.size+1+1+1) 2 (iV 0)) (w.heap.size+1+1+1) 3 (.string ⟨#[]⟩)) (w.heap.size+1+1+1) 4 (iV 0)) (w.heap.size+1+1+1) 5 (.string ⟨#[]⟩)) (w.heap.size+1+1+1) 6 (iV 0)).setCell ⟨w.heap.size+1+1+1,7,none⟩ (iV (6))) (w.heap.size+1+1+1) [.slice none 0 0,.slice none 0 0,iV 0,.string ⟨#[]⟩,iV 0,.string ⟨#[]⟩,iV 0,iV (6)]):=((((((((HHz.set 0 (.slice none 0 0)).set 1 (.slice none 0 0)).set 2 (iV 0)).set 3 (.string ⟨#[]⟩)).set 4 (iV 0)).set 5 (.string ⟨#[]⟩)).set 6 (iV 0)).set 7 (iV (6)));have RB:Hid _:=((((((((S3.out.b.setCell (p:=⟨w.heap.size+1+1+1,0,none⟩) hRw (.slice none 0 0)).setCell (p:=⟨w.heap.size+1+1+1,1,none⟩) hRw (.slice none 0 0)).setCell (p:=⟨w.heap.size+1+1+1,2,none⟩) hRw (iV 0)).setCell (p:=⟨w.heap.size+1+1+1,3,none⟩) hRw (.string ⟨#[]⟩)).setCell (p:=⟨w.heap.size+1+1+1,4,none⟩) hRw (iV 0)).setCell (p:=⟨w.heap.size+1+1+1,5,none⟩) hRw (.string ⟨#[]⟩)).setCell (p:=⟨w.heap.size+1+1+1,6,none⟩) hRw (iV 0)).setCell (p:=⟨w.heap.size+1+1+1,7,none⟩) hRw (iV (6)));clear HHz;go_wp2_with fail
   exact bodyPost_ret (results_mid Tryz.results85 _ _ (w.heap.size+1+1+1) [.slice none 0 0,.slice none 0 0,iV 0,.string ⟨#[]⟩,iV 0,.string ⟨#[]⟩,iV 0,iV (6)] _ rfl HRR.out Tryz.underlying96 rfl (show (Tryz.prog.info? 96).map (·.size)=some 8 by kernel_rfl)) rfl (And.intro (by rw [HX.out]; exact ⟨none,none,0,0,rfl,.inl rfl,.inl rfl,fun g h e1=>by simp at e1⟩) RB.out)
  | true =>
   have HX:Hid (ans=newV p x ⟨proto,true,addr,port,peer,peerPort,flags⟩ bdZ now):=by unfold Hid; rw [HW.out]; rfl
   have HNC:Hid (∀ W,Below w.heap.size w W→Calls Tryz.prog 124 #[.agg (PlV pa pc p).toArray,.agg (BbV ba ca bo cb x).toArray,.agg (TcR proto true addr port peer peerPort flags).toArray,.agg (BdR 0 ⟨#[]⟩ 0 ⟨#[]⟩ 0).toArray,iV now] W fun e w'=>BoRet W.heap.size (newV p x ⟨proto,true,addr,port,peer,peerPort,flags⟩ bdZ now) e w'∧Below W.heap.size W w'):=fun W hW=>HNW.out bdZ W hW
   generalize newV p x ⟨proto,true,addr,port,peer,peerPort,flags⟩ bdZ now=nv at *;have HHp:=S3.out.at mE0;obtain ⟨p0,p1,p2,p3,p4,p5,p6,p7,p8,p9⟩:=HHp.c10;clear HHp;have HHb:=S3.out.at mE1;obtain ⟨b0,b1⟩:=HHb.c2;clear HHb;have HHt:=S3.out.at mE2;obtain ⟨t0,t1,t2,t3,t4,t5,t6⟩:=HHt.c7;clear HHt;have hRl:w.heap.size+1+1+1 < W3.heap.size:=(S3.out.lts _ mE3).1;go_wp2_with fail
   refine (HNC.out _ S3.out.b).mono ?_;rintro e W4 ⟨⟨a1,a2,c1,c2,rfl,hown⟩,q4⟩;have S4:Hid _:=S3.out.kept q4;have HHz:=S4.out.at mE3;obtain ⟨z0,z1,z2,z3,z4,z5,z6,z7⟩:=HHz.c8;obtain ⟨zf0,zf1,zf2,zf3,zf4,zf5,zf6,zf7⟩:=HHz.f8;have HRR:Hid (HoldsL ((sW (sW (sW (sW (sW (sW (sW W4 (w.heap.size+1+1+1) 0 (.slice a1 nv.bib.binds.length c1)) (w.heap.size+1+1+1) 1 (.slice a2 nv.bib.sess.length c2)) (w.heap.size+1+1+1) 2 (iV nv.bind.proto)) (w.heap.size+1+1+1) 3 (.string nv.bind.inn)) (w.heap.size+1+1+1) 4 (iV nv.bind.inPort)) (w.heap.size+1+1+1) 5 (.string nv.bind.out)) (w.heap.size+1+1+1) 6 (iV nv.bind.outPort)).setCell ⟨w.heap.size+1+1+1,7,none⟩ (iV nv.code)) (w.heap.size+1+1+1) [.slice a1 nv.bib.binds.length c1,.slice a2 nv.bib.sess.length c2,iV nv.bind.proto,.string nv.bind.inn,iV nv.bind.inPort,.string nv.bind.out,iV nv.bind.outPort,iV nv.code]):=((((((((HHz.set 0 (.slice a1 nv.bib.binds.length c1)).set 1 (.slice a2 nv.bib.sess.length c2)).set 2 (iV nv.bind.proto)).set 3 (.string nv.bind.inn)).set 4 (iV nv.bind.inPort)).set 5 (.string nv.bind.out)).set 6 (iV nv.bind.outPort)).set 7 (iV nv.code));have RB:Hid _:=((((((((S4.out.b.setCell (p:=⟨w.heap.size+1+1+1,0,none⟩) hRw (.slice a1 nv.bib.binds.length c1)).setCell (p:=⟨w.heap.size+1+1+1,1,none⟩) hRw (.slice a2 nv.bib.sess.length c2)).setCell (p:=⟨w.heap.size+1+1+1,2,none⟩) hRw (iV nv.bind.proto)).setCell (p:=⟨w.heap.size+1+1+1,3,none⟩) hRw (.string nv.bind.inn)).setCell (p:=⟨w.heap.size+1+1+1,4,none⟩) hRw (iV nv.bind.inPort)).setCell (p:=⟨w.heap.size+1+1+1,5,none⟩) hRw (.string nv.bind.out)).setCell (p:=⟨w.heap.size+1+1+1,6,none⟩) hRw (iV nv.bind.outPort)).setCell (p:=⟨w.heap.size+1+1+1,7,none⟩) hRw (iV nv.code));clear HHz;have hwl:=S3.out.b.size;have HOW:Hid (BbOwn w.heap.size ((sW (sW (sW (sW (sW (sW (sW W4 (w.heap.size+1+1+1) 0 (.slice a1 nv.bib.binds.length c1)) (w.heap.size+1+1+1) 1 (.slice a2 nv.bib.sess.length c2)) (w.heap.size+1+1+1) 2 (iV nv.bind.proto)) (w.heap.size+1+1+1) 3 (.string nv.bind.inn)) (w.heap.size+1+1+1) 4 (iV nv.bind.inPort)) (w.heap.size+1+1+1) 5 (.string nv.bind.out)) (w.heap.size+1+1+1) 6 (iV nv.bind.outPort)).setCell ⟨w.heap.size+1+1+1,7,none⟩ (iV nv.code)) a1 a2 nv.bib):=⟨(hown.bd.grown (grown_set (grown_set (grown_set (grown_set (grown_set (grown_set (grown_set (grown_set (World.grownBy.refl _ _) _) _) _) _) _) _) _) _) hRl).down hwl,(hown.ss.grown (grown_set (grown_set (grown_set (grown_set (grown_set (grown_set (grown_set (grown_set (World.grownBy.refl _ _) _) _) _) _) _) _) _) _) hRl).down hwl,hown.ne⟩;clear hown q4;unfold boC;go_wp2_with fail
   exact bodyPost_ret (results_mid Tryz.results85 _ _ _ _ _ rfl HRR.out Tryz.underlying96 rfl (show (Tryz.prog.info? 96).map (·.size)=some 8 by kernel_rfl)) rfl (And.intro (by rw [HX.out]; exact ⟨a1,a2,c1,c2,rfl,HOW.out⟩) RB.out)
 | some i =>
 have hk:findI g x.binds=(i:Int):=by unfold findI; rw [hfi]
 obtain ⟨hlt,hfd⟩:=idx_some hfi;rw [hfd] at HV;rw [hk];obtain ⟨bb,off,hba,hb,hat⟩:=HSX.out.bd.at hlt;have hA:=(hat.below hb S3.out.b) i hlt;obtain ⟨c,hc⟩ : ∃ c,c=x.binds[i]:=⟨_,rfl⟩;rw [← hc] at hA HV;have s0:W3.cell? ⟨bb,off+i*5,none⟩=some (iV c.proto):=hA 0 _ rfl;have s1:W3.cell? ⟨bb,off+i*5+1,none⟩=some (.string c.inn):=hA 1 _ rfl;have s2:W3.cell? ⟨bb,off+i*5+2,none⟩=some (iV c.inPort):=hA 2 _ rfl;have s3:W3.cell? ⟨bb,off+i*5+3,none⟩=some (.string c.out):=hA 3 _ rfl;have s4:W3.cell? ⟨bb,off+i*5+4,none⟩=some (iV c.outPort):=hA 4 _ rfl;have hltI:(i:Int) < (x.binds.length:Int):=by omega
 have hge:¬ (i:Int) < 0:=by omega
 have HVV:Hid _:=HV.out;clear HV hfi hfd hc hA hat hk HG;have HHb:=S3.out.at mE1;have b0:=HHb.cell (j:=0) rfl;clear HHb;rw [hba] at b0;go_upto_region 9 with fail
 clear b0 s0 s1 s2 s3 s4 hltI hge hlt hb hba;have S5:Hid _:=S3.out.push (BdV c) (by simp) 94;have hXw:w.heap.size≤W3.heap.size:=S3.out.b.size;generalize hW5:W3.alloc _=W5 at *;clear hW5 S3;generalize W3.heap.size=Bx at *;have S6:Hid (Bxs w [(Bx,(BdV c)),(w.heap.size,(PlV pa pc p)),(w.heap.size+1,(BbV ba ca bo cb x)),(w.heap.size+1+1,(TcR proto inside addr port peer peerPort flags)),(w.heap.size+1+1+1,[.slice none 0 0,.slice none 0 0,iV 0,.string ⟨#[]⟩,iV 0,.string ⟨#[]⟩,iV 0,iV 0])] W5):=S5.out;clear S5;have HHb:=S6.out.at mE2;obtain ⟨b0,b1⟩:=HHb.c2;clear HHb;have HHx:=S6.out.at mE0;obtain ⟨x0,x1,x2,x3,x4⟩:=HHx.c5;clear HHx;have HHt:=S6.out.at mE3;obtain ⟨t0,t1,t2,t3,t4,t5,t6⟩:=HHt.c7;clear HHt;go_wp2_with fail
 refine (HSS.out c _ S6.out.b).mono ?_;rintro e W6 ⟨rfl,q6⟩;have S7:Hid _:=S6.out.kept q6;clear q6 S6 HSS b0 b1 x0 x1 x2 x3 x4 t0 t1 t2 t3 t4 t5 t6;have HVW:Hid (ans=match x.sess.findIdx? (withP c peer peerPort) with
   | none=>if goneB p x ⟨proto,inside,addr,port,peer,peerPort,flags⟩ c=true then boE 6 else newV p x ⟨proto,inside,addr,port,peer,peerPort,flags⟩ c now
   | some i=>⟨⟨x.binds,setN x.sess i (nextS p ⟨proto,inside,addr,port,peer,peerPort,flags⟩ now)⟩,c,0⟩):=HVV.out
 clear HVV
 cases hfi:x.sess.findIdx? (withP c peer peerPort) with
 | none =>
  have hk:findI (withP c peer peerPort) x.sess=-1:=by unfold findI; rw [hfi]
  rw [hfi] at HVW;have HW:Hid (ans=if goneB p x ⟨proto,inside,addr,port,peer,peerPort,flags⟩ c=true then boE 6 else newV p x ⟨proto,inside,addr,port,peer,peerPort,flags⟩ c now):=HVW.out;clear HVW hfi;rw [hk];clear hk;have HGO:Hid (goneB p x ⟨proto,inside,addr,port,peer,peerPort,flags⟩ c=(!inside&&(decide (p.filter=2)||(decide (p.filter=1)&&!x.sess.any (withA c peer))))):=rfl;generalize goneB p x ⟨proto,inside,addr,port,peer,peerPort,flags⟩ c=gone at *;have HKC:Hid _:=HKN.out c;clear HKN;obtain ⟨kn,hkn⟩ : ∃ kn,kn=x.sess.any (withA c peer):=⟨_,rfl⟩;rw [← hkn] at HGO HKC;clear hkn;go_upto_region 11 with fail
  go_cut [79] (fun v wx=>v=.bool gone∧Bxs w [(Bx,(BdV c)),(w.heap.size,(PlV pa pc p)),(w.heap.size+1,(BbV ba ca bo cb x)),(w.heap.size+1+1,(TcR proto inside addr port peer peerPort flags)),(w.heap.size+1+1+1,[.slice none 0 0,.slice none 0 0,iV 0,.string ⟨#[]⟩,iV 0,.string ⟨#[]⟩,iV 0,iV 0])] wx)
  case first =>
   have hun:undef=Value.tuple #[]:=rfl;clear HW HNW
   cases inside with
   | true =>
    have HHt:=S7.out.at mE3;have t1:=HHt.cell (j:=1) rfl;clear HHt;go_wp2_with fail
    go_meet;exact ⟨by rw [HGO.out]; rfl,S7.out⟩
   | false =>
    have HHt:=S7.out.at mE3;obtain ⟨t0,t1,t2,t3,t4,t5,t6⟩:=HHt.c7;clear HHt;have HHp:=S7.out.at mE1;have p4:=HHp.cell (j:=4) rfl;clear HHp;have HHb:=S7.out.at mE2;obtain ⟨b0,b1⟩:=HHb.c2;clear HHb;have HHx:=S7.out.at mE0;obtain ⟨x0,x1,x2,x3,x4⟩:=HHx.c5;clear HHx;by_cases h2:p.filter=2
    case pos =>
     have d2:(p.filter==2)=true:=by simp [h2]
     have H2:Hid _:=h2;clear h2;go_wp2_with fail
     go_meet;exact ⟨by rw [HGO.out]; simp [H2.out],S7.out⟩
    have d2:(p.filter==2)=false:=by simp [h2]
    by_cases h1:p.filter=1
    case neg =>
     have d1:(p.filter==1)=false:=by simp [h1]
     go_wp2_with fail
     go_meet;exact ⟨by rw [HGO.out]; simp [h2,h1],S7.out⟩
    have d1:(p.filter==1)=true:=by simp [h1]
    have H1:Hid _:=h1;clear h1;go_wp2_with fail
    refine (HKC.out _ S7.out.b).mono ?_;rintro e W7 ⟨rfl,q7⟩;have S8:Hid _:=S7.out.kept q7;clear q7
    cases kn;all_goals
     go_wp2_with fail
     go_meet;exact ⟨by rw [HGO.out]; simp [H1.out],S8.out⟩
  case rest =>
  obtain ⟨rfl,hS⟩:=hcut;have S9:Hid _:=hS;clear hS S7 HKC HGO;generalize wc=W9 at *
  cases gone with
  | true =>
   have HX:Hid (ans=boE (6)):=by unfold Hid; rw [HW.out]; rfl
   have HHz:=S9.out.at mE4;obtain ⟨z0,z1,z2,z3,z4,z5,z6,z7⟩:=HHz.c8;obtain ⟨zf0,zf1,zf2,zf3,zf4,zf5,zf6,zf7⟩:=HHz.f8;have HRR:Hid (HoldsL ((sW (sW (sW (sW (sW (sW (sW W9 (w.heap.size+1+1+1) 0 (.slice none 0 0)) (w.heap.size+1+1+1) 1 (.slice none 0 0)) (w.heap.size+1+1+1) 2 (iV 0)) (w.heap.size+1+1+1) 3 (.string ⟨#[]⟩)) (w.heap.size+1+1+1) 4 (iV 0)) (w.heap.size+1+1+1) 5 (.string ⟨#[]⟩)) (w.heap.size+1+1+1) 6 (iV 0)).setCell ⟨w.heap.size+1+1+1,7,none⟩ (iV (6))) (w.heap.size+1+1+1) [.slice none 0 0,.slice none 0 0,iV 0,.string ⟨#[]⟩,iV 0,.string ⟨#[]⟩,iV 0,iV (6)]):=((((((((HHz.set 0 (.slice none 0 0)).set 1 (.slice none 0 0)).set 2 (iV 0)).set 3 (.string ⟨#[]⟩)).set 4 (iV 0)).set 5 (.string ⟨#[]⟩)).set 6 (iV 0)).set 7 (iV (6)));have RB:Hid _:=((((((((S9.out.b.setCell (p:=⟨w.heap.size+1+1+1,0,none⟩) hRw (.slice none 0 0)).setCell (p:=⟨w.heap.size+1+1+1,1,none⟩) hRw (.slice none 0 0)).setCell (p:=⟨w.heap.size+1+1+1,2,none⟩) hRw (iV 0)).setCell (p:=⟨w.heap.size+1+1+1,3,none⟩) hRw (.string ⟨#[]⟩)).setCell (p:=⟨w.heap.size+1+1+1,4,none⟩) hRw (iV 0)).setCell (p:=⟨w.heap.size+1+1+1,5,none⟩) hRw (.string ⟨#[]⟩)).setCell (p:=⟨w.heap.size+1+1+1,6,none⟩) hRw (iV 0)).setCell (p:=⟨w.heap.size+1+1+1,7,none⟩) hRw (iV (6)));clear HHz;go_wp2_with fail
   exact bodyPost_ret (results_mid Tryz.results85 _ _ (w.heap.size+1+1+1) [.slice none 0 0,.slice none 0 0,iV 0,.string ⟨#[]⟩,iV 0,.string ⟨#[]⟩,iV 0,iV (6)] _ rfl HRR.out Tryz.underlying96 rfl (show (Tryz.prog.info? 96).map (·.size)=some 8 by kernel_rfl)) rfl (And.intro (by rw [HX.out]; exact ⟨none,none,0,0,rfl,.inl rfl,.inl rfl,fun g h e1=>by simp at e1⟩) RB.out)
  | false =>
   have HX:Hid (ans=newV p x ⟨proto,inside,addr,port,peer,peerPort,flags⟩ c now):=by unfold Hid; rw [HW.out]; rfl
   have HNC:Hid (∀ W,Below w.heap.size w W→Calls Tryz.prog 124 #[.agg (PlV pa pc p).toArray,.agg (BbV ba ca bo cb x).toArray,.agg (TcR proto inside addr port peer peerPort flags).toArray,.agg (BdV c).toArray,iV now] W fun e w'=>BoRet W.heap.size (newV p x ⟨proto,inside,addr,port,peer,peerPort,flags⟩ c now) e w'∧Below W.heap.size W w'):=fun W hW=>HNW.out c W hW
   generalize newV p x ⟨proto,inside,addr,port,peer,peerPort,flags⟩ c now=nv at *;have HHp:=S9.out.at mE1;obtain ⟨p0,p1,p2,p3,p4,p5,p6,p7,p8,p9⟩:=HHp.c10;clear HHp;have HHb:=S9.out.at mE2;obtain ⟨b0,b1⟩:=HHb.c2;clear HHb;have HHt:=S9.out.at mE3;obtain ⟨t0,t1,t2,t3,t4,t5,t6⟩:=HHt.c7;clear HHt;have HHx:=S9.out.at mE0;obtain ⟨x0,x1,x2,x3,x4⟩:=HHx.c5;clear HHx;have hRl:w.heap.size+1+1+1 < W9.heap.size:=(S9.out.lts _ mE4).1;go_wp2_with fail
   refine (HNC.out _ S9.out.b).mono ?_;rintro e W4 ⟨⟨a1,a2,c1,c2,rfl,hown⟩,q4⟩;have S4:Hid _:=S9.out.kept q4;have HHz:=S4.out.at mE4;obtain ⟨z0,z1,z2,z3,z4,z5,z6,z7⟩:=HHz.c8;obtain ⟨zf0,zf1,zf2,zf3,zf4,zf5,zf6,zf7⟩:=HHz.f8;have HRR:Hid (HoldsL ((sW (sW (sW (sW (sW (sW (sW W4 (w.heap.size+1+1+1) 0 (.slice a1 nv.bib.binds.length c1)) (w.heap.size+1+1+1) 1 (.slice a2 nv.bib.sess.length c2)) (w.heap.size+1+1+1) 2 (iV nv.bind.proto)) (w.heap.size+1+1+1) 3 (.string nv.bind.inn)) (w.heap.size+1+1+1) 4 (iV nv.bind.inPort)) (w.heap.size+1+1+1) 5 (.string nv.bind.out)) (w.heap.size+1+1+1) 6 (iV nv.bind.outPort)).setCell ⟨w.heap.size+1+1+1,7,none⟩ (iV nv.code)) (w.heap.size+1+1+1) [.slice a1 nv.bib.binds.length c1,.slice a2 nv.bib.sess.length c2,iV nv.bind.proto,.string nv.bind.inn,iV nv.bind.inPort,.string nv.bind.out,iV nv.bind.outPort,iV nv.code]):=((((((((HHz.set 0 (.slice a1 nv.bib.binds.length c1)).set 1 (.slice a2 nv.bib.sess.length c2)).set 2 (iV nv.bind.proto)).set 3 (.string nv.bind.inn)).set 4 (iV nv.bind.inPort)).set 5 (.string nv.bind.out)).set 6 (iV nv.bind.outPort)).set 7 (iV nv.code));have RB:Hid _:=((((((((S4.out.b.setCell (p:=⟨w.heap.size+1+1+1,0,none⟩) hRw (.slice a1 nv.bib.binds.length c1)).setCell (p:=⟨w.heap.size+1+1+1,1,none⟩) hRw (.slice a2 nv.bib.sess.length c2)).setCell (p:=⟨w.heap.size+1+1+1,2,none⟩) hRw (iV nv.bind.proto)).setCell (p:=⟨w.heap.size+1+1+1,3,none⟩) hRw (.string nv.bind.inn)).setCell (p:=⟨w.heap.size+1+1+1,4,none⟩) hRw (iV nv.bind.inPort)).setCell (p:=⟨w.heap.size+1+1+1,5,none⟩) hRw (.string nv.bind.out)).setCell (p:=⟨w.heap.size+1+1+1,6,none⟩) hRw (iV nv.bind.outPort)).setCell (p:=⟨w.heap.size+1+1+1,7,none⟩) hRw (iV nv.code));clear HHz;have hwl:=S9.out.b.size;have HOW:Hid (BbOwn w.heap.size ((sW (sW (sW (sW (sW (sW (sW W4 (w.heap.size+1+1+1) 0 (.slice a1 nv.bib.binds.length c1)) (w.heap.size+1+1+1) 1 (.slice a2 nv.bib.sess.length c2)) (w.heap.size+1+1+1) 2 (iV nv.bind.proto)) (w.heap.size+1+1+1) 3 (.string nv.bind.inn)) (w.heap.size+1+1+1) 4 (iV nv.bind.inPort)) (w.heap.size+1+1+1) 5 (.string nv.bind.out)) (w.heap.size+1+1+1) 6 (iV nv.bind.outPort)).setCell ⟨w.heap.size+1+1+1,7,none⟩ (iV nv.code)) a1 a2 nv.bib):=⟨(hown.bd.grown (grown_set (grown_set (grown_set (grown_set (grown_set (grown_set (grown_set (grown_set (World.grownBy.refl _ _) _) _) _) _) _) _) _) _) hRl).down hwl,(hown.ss.grown (grown_set (grown_set (grown_set (grown_set (grown_set (grown_set (grown_set (grown_set (World.grownBy.refl _ _) _) _) _) _) _) _) _) _) hRl).down hwl,hown.ne⟩;clear hown q4;unfold boC;go_wp2_with fail
   exact bodyPost_ret (results_mid Tryz.results85 _ _ _ _ _ rfl HRR.out Tryz.underlying96 rfl (show (Tryz.prog.info? 96).map (·.size)=some 8 by kernel_rfl)) rfl (And.intro (by rw [HX.out]; exact ⟨a1,a2,c1,c2,rfl,HOW.out⟩) RB.out)
 | some j =>
  have hk:findI (withP c peer peerPort) x.sess=(j:Int):=by unfold findI; rw [hfi]
  obtain ⟨hlt,-⟩:=idx_some hfi;rw [hfi] at HVW;rw [hk];clear hfi hk HKN HNW;obtain ⟨s,hs⟩ : ∃ s,s=x.sess[j]:=⟨_,rfl⟩;have HW:Hid (ans=⟨⟨x.binds,x.sess.set j { s with state:=trackNextV proto s.state inside flags,untl:=now+trackLifeV p.lv proto (trackNextV proto s.state inside flags) }⟩,c,0⟩):=by unfold Hid; rw [HVW.out,hs]; unfold setN; simp only [List.getElem?_eq_getElem hlt]; rfl
  clear HVW;replace HNX:=HNX.out s.state;have HNY:Hid _:=HNX;clear HNX;generalize trackNextV proto s.state inside flags=st at *;replace HLF:=HLF.out st;have HLG:Hid _:=HLF;clear HLF;obtain ⟨hf0,hf1⟩:=trackLife_in p.lv proto st;generalize trackLifeV p.lv proto st=lf at *;have hge:¬ (j:Int) < 0:=by omega
  have HHb:=S7.out.at mE2;obtain ⟨b0,b1⟩:=HHb.c2;clear HHb;go_wp2_with fail
  refine (HCY.out _ S7.out.b).mono ?_;rintro e W8 ⟨⟨bv,sv,rfl,o1,o2⟩,q8⟩;have S8:Hid _:=S7.out.kept q8;have HO:Hid _:=RowsO.make (ks:=[(Bx,(BdV c)),(w.heap.size,(PlV pa pc p)),(w.heap.size+1,(BbV ba ca bo cb x)),(w.heap.size+1+1,(TcR proto inside addr port peer peerPort flags)),(w.heap.size+1+1+1,[.slice none 0 0,.slice none 0 0,iV 0,.string ⟨#[]⟩,iV 0,.string ⟨#[]⟩,iV 0,iV 0])]) (x:=x) S7.out.b.size S8.out.b o1 o2 S8.out.k S7.out.lts q8.size;obtain ⟨ab,cb1,hbv,-,-⟩:=(Row.shape bdL_length (w0:=W8) ⟨o1,Below.refl _ _⟩ : ∃ a' cap,bv=.slice a' x.binds.length cap∧x.binds.length≤cap∧SlOwn bdL 5 W6.heap.size W8 a' x.binds);obtain ⟨gs,cs1,hsv⟩ : ∃ gs cs1,sv=.slice (some ⟨gs,0,none⟩) x.sess.length cs1:=by
   rcases o2.2 with ⟨_,h0⟩ | ⟨g,cap,cur,h3,_⟩
   ·omega
   ·exact ⟨g,cap,h3⟩
  subst hbv hsv;clear q8 o1 o2 S8 S7 b0 b1 hge;go_upto_region 15 with fail
  generalize (W8.alloc (.cells #[(.slice ab x.binds.length cb1),(.slice (some ⟨gs,0,none⟩) x.sess.length cs1)] 39))=V1 at *;generalize W8.heap.size=O at *;generalize W6.heap.size=base at *;have HV1:Hid (RowsO w base O [(Bx,(BdV c)),(w.heap.size,(PlV pa pc p)),(w.heap.size+1,(BbV ba ca bo cb x)),(w.heap.size+1+1,(TcR proto inside addr port peer peerPort flags)),(w.heap.size+1+1+1,[.slice none 0 0,.slice none 0 0,iV 0,.string ⟨#[]⟩,iV 0,.string ⟨#[]⟩,iV 0,iV 0])] (.slice ab x.binds.length cb1) (.slice (some ⟨gs,0,none⟩) x.sess.length cs1) x.binds (x.sess) V1):=HO.out;clear HO;obtain ⟨sb,so,hbo,hsb,hat⟩:=HSX.out.ss.at hlt;have HAT:Hid (∀ W,Below w.heap.size w W→W.rangeAt sb (so+j*7) (ssL s)):=fun W hW=>by rw [hs]; exact (hat.below hsb hW) j hlt
  have HBO:Hid (bo=some ⟨sb,so,none⟩):=hbo;have HSJ:Hid (s=x.sess[j]):=hs;clear hat hbo hs hsb;have hltI:(j:Int) < (x.sess.length:Int):=by omega
  have HCP:Hid (∀ wy,Below V1.drew.heap.size V1.drew wy→_):=fun wy hy=>HV1.out.kept ((Below.refl _ _).drew.trans hy)
  go_cut [13] (fun v wx=>v=iV st∧RowsO w base O [(Bx,(BdV c)),(w.heap.size,(PlV pa pc p)),(w.heap.size+1,(BbV ba ca bo cb x)),(w.heap.size+1+1,(TcR proto inside addr port peer peerPort flags)),(w.heap.size+1+1+1,[.slice none 0 0,.slice none 0 0,iV 0,.string ⟨#[]⟩,iV 0,.string ⟨#[]⟩,iV 0,iV 0])] (.slice ab x.binds.length cb1) (.slice (some ⟨gs,0,none⟩) x.sess.length cs1) x.binds (x.sess) wx)
  case first =>
   rename_i J K2 hJ hK2;clear hun;refine wp_region_growH [89,90,91,92,93,94,95,96,97,98,99,100,101,13] (by kernel_rfl) (by kernel_rfl) ?_;apply GCh.v0
   ·rfl
   ·intro K' a wy ho hd hb hK kz;have o6:=ho 6 (by decide);simp [slot] at o6;clear hd ho;go_simp;try go_bits
    exact kz _ rfl
   apply GCh.v1
   ·rfl
   ·intro K' a wy ho hd hb hK kz;have q0:=hd ⟨0,.data⟩ (by simp) rfl;simp [rAt,IsV,slot] at q0;clear hd ho;have hst:=HCP.out wy hb;have HHt:=hst.at mE3;obtain ⟨t0,t1,t2,t3,t4,t5,t6⟩:=HHt.c7;clear HHt;have HHb:=hst.at mE2;have b1:=HHb.cell (j:=1) rfl;clear HHb;rw [HBO.out] at b1;have hsr:=HAT.out wy hst.b;have s5:wy.cell? ⟨sb,so+j*7+5,none⟩=some (iV s.state):=hsr 5 _ rfl;clear hsr;clear hst;go_simp;try go_bits
    exact kz _ rfl
   apply GCh.v2
   ·rfl
   ·intro K' a wy ho hd hb hK kz;have o5:=ho 5 (by decide);simp [slot] at o5;clear hd ho;go_simp;try go_bits
    exact kz _ rfl
   apply GCh.v3
   ·rfl
   ·intro K' a wy ho hd hb hK kz;have q2:=hd ⟨2,.data⟩ (by simp) rfl;simp [rAt,IsV,slot] at q2;clear hd ho;have hst:=HCP.out wy hb;have HHt:=hst.at mE3;obtain ⟨t0,t1,t2,t3,t4,t5,t6⟩:=HHt.c7;clear HHt;have HHb:=hst.at mE2;have b1:=HHb.cell (j:=1) rfl;clear HHb;rw [HBO.out] at b1;have hsr:=HAT.out wy hst.b;have s5:wy.cell? ⟨sb,so+j*7+5,none⟩=some (iV s.state):=hsr 5 _ rfl;clear hsr;clear hst;go_simp;try go_bits
    exact kz _ rfl
   apply GCh.v4
   ·rfl
   ·intro K' a wy ho hd hb hK kz;have o11:=ho 11 (by decide);simp [slot] at o11;clear hd ho;go_simp;try go_bits
    exact kz _ rfl
   apply GCh.v5
   ·rfl
   ·intro K' a wy ho hd hb hK kz;have q3:=hd ⟨3,.data⟩ (by simp) rfl;have q4:=hd ⟨4,.data⟩ (by simp) rfl;simp [rAt,IsV,slot] at q3 q4;clear hd ho;go_simp;try go_bits
    exact kz _ rfl
   apply GCh.v6
   ·rfl
   ·intro K' a wy ho hd hb hK kz;have q5:=hd ⟨5,.data⟩ (by simp) rfl;simp [rAt,IsV,slot] at q5;clear hd ho;go_simp;try go_bits
    exact kz _ rfl
   apply GCh.v7
   ·rfl
   ·intro K' a wy ho hd hb hK kz;have q6:=hd ⟨6,.data⟩ (by simp) rfl;simp [rAt,IsV,slot] at q6;clear hd ho;have hst:=HCP.out wy hb;have HHt:=hst.at mE3;obtain ⟨t0,t1,t2,t3,t4,t5,t6⟩:=HHt.c7;clear HHt;have HHb:=hst.at mE2;have b1:=HHb.cell (j:=1) rfl;clear HHb;rw [HBO.out] at b1;have hsr:=HAT.out wy hst.b;have s5:wy.cell? ⟨sb,so+j*7+5,none⟩=some (iV s.state):=hsr 5 _ rfl;clear hsr;clear hst;go_simp;try go_bits
    exact kz _ rfl
   apply GCh.v8
   ·rfl
   ·intro K' a wy ho hd hb hK kz;have o6:=ho 6 (by decide);simp [slot] at o6;clear hd ho;go_simp;try go_bits
    exact kz _ rfl
   apply GCh.v9
   ·rfl
   ·intro K' a wy ho hd hb hK kz;have q8:=hd ⟨8,.data⟩ (by simp) rfl;simp [rAt,IsV,slot] at q8;clear hd ho;have hst:=HCP.out wy hb;have HHt:=hst.at mE3;obtain ⟨t0,t1,t2,t3,t4,t5,t6⟩:=HHt.c7;clear HHt;have HHb:=hst.at mE2;have b1:=HHb.cell (j:=1) rfl;clear HHb;rw [HBO.out] at b1;have hsr:=HAT.out wy hst.b;have s5:wy.cell? ⟨sb,so+j*7+5,none⟩=some (iV s.state):=hsr 5 _ rfl;clear hsr;clear hst;go_simp;try go_bits
    exact kz _ rfl
   apply GCh.v10
   ·rfl
   ·intro K' a wy ho hd hb hK kz;have o6:=ho 6 (by decide);simp [slot] at o6;clear hd ho;go_simp;try go_bits
    exact kz _ rfl
   apply GCh.v11
   ·rfl
   ·intro K' a wy ho hd hb hK kz;have q10:=hd ⟨10,.data⟩ (by simp) rfl;simp [rAt,IsV,slot] at q10;clear hd ho;have hst:=HCP.out wy hb;have HHt:=hst.at mE3;obtain ⟨t0,t1,t2,t3,t4,t5,t6⟩:=HHt.c7;clear HHt;have HHb:=hst.at mE2;have b1:=HHb.cell (j:=1) rfl;clear HHb;rw [HBO.out] at b1;have hsr:=HAT.out wy hst.b;have s5:wy.cell? ⟨sb,so+j*7+5,none⟩=some (iV s.state):=hsr 5 _ rfl;clear hsr;clear hst;go_simp;try go_bits
    exact kz _ rfl
   apply GCh.v12
   ·rfl
   ·intro K' a wy ho hd hb hK kz;have q1:=hd ⟨1,.data⟩ (by simp) rfl;have q7:=hd ⟨7,.data⟩ (by simp) rfl;have q9:=hd ⟨9,.data⟩ (by simp) rfl;have q11:=hd ⟨11,.data⟩ (by simp) rfl;simp [rAt,IsV,slot] at q1 q7 q9 q11;clear hd ho;go_simp;refine (HNY.out wy).mono ?_;rintro e wz ⟨rfl,hz⟩;exact hK _ _ rfl hz
   apply GCh.v13
   ·rfl
   ·intro K' a wy ho hd hb hK kz;have q12:=hd ⟨12,.data⟩ (by simp) rfl;simp [rAt,IsV,slot] at q12;clear hd ho;go_simp;try go_bits
    exact kz _ rfl
   intro X wz hR hz;obtain ⟨x0,x1,x2,x3,x4,x5,x6,x7,x8,x9,x10,x11,x12,x13,-⟩:=hR;simp only [IsV] at x0 x1 x2 x3 x4 x5 x6 x7 x8 x9 x10 x11 x12 x13;simp only [putsFrom,x0,x1,x2,x3,x4,x5,x6,x7,x8,x9,x10,x11,x12,x13];clear x0 x1 x2 x3 x4 x5 x6 x7 x8 x9 x10 x11 x12 x13;go_simp;refine hK2 _ _ (hJ _ _ ?_);(repeat apply Exists.intro)
   refine ⟨⟨rfl,HCP.out wz hz⟩,rfl⟩
  case rest =>
  obtain ⟨rfl,hS⟩:=hcut;have V2:Hid _:=hS;clear hS HV1 HCP HNY HAT;generalize wc=U2 at *;have k1:=V2.out.o.cell (j:=1) rfl;have r5:U2.cell? ⟨gs,j*7+5,none⟩=some (iV s.state):=own_at V2.out.so rfl j hlt 5 _ (by rw [← HSJ.out]; rfl);have f5:U2.frozen? ⟨gs,j*7+5,none⟩=false:=own_free V2.out.so _;have V3:Hid _:=V2.out.setS rfl j hlt 5 (by decide) (iV st) { s with state:=st } (by rw [← HSJ.out]; rfl);clear V2;go_upto_region 17 with fail
  clear k1 r5 f5;generalize U2.setCell ⟨gs,j*7+5,none⟩ (iV st)=U3 at *;have V4:Hid (RowsO w base O [(Bx,(BdV c)),(w.heap.size,(PlV pa pc p)),(w.heap.size+1,(BbV ba ca bo cb x)),(w.heap.size+1+1,(TcR proto inside addr port peer peerPort flags)),(w.heap.size+1+1+1,[.slice none 0 0,.slice none 0 0,iV 0,.string ⟨#[]⟩,iV 0,.string ⟨#[]⟩,iV 0,iV 0])] (.slice ab x.binds.length cb1) (.slice (some ⟨gs,0,none⟩) x.sess.length cs1) x.binds (x.sess.set j { s with state:=st }) U3):=V3.out;clear V3;have HCP:Hid (∀ wy,Below U3.drew.heap.size U3.drew wy→_):=fun wy hy=>V4.out.kept ((Below.refl _ _).drew.trans hy)
  clear V4;try clear hun
  refine wp_region_growV [108,109,110,111,112,113,114,115,116,117,118,119,120] (by kernel_rfl) (by kernel_rfl) ?_;apply GChV.v0
  ·rfl
  ·intro K' a wy ho hd hb hK kz;have o12:=ho 12 (by decide);simp [slot] at o12;clear hd ho;go_simp;try go_bits
   exact kz _ rfl
  apply GChV.v1
  ·rfl
  ·intro K' a wy ho hd hb hK kz;have q0:=hd ⟨0,.data⟩ (by simp) rfl;simp [rAt,IsV,slot] at q0;clear hd ho;have hst:=HCP.out wy hb;have HHt:=hst.at mE3;have t0:=HHt.cell (j:=0) rfl;clear HHt;have HHp:=hst.at mE1;obtain ⟨-,-,-,-,-,p5,p6,p7,p8,p9⟩:=HHp.c10;clear HHp;have k1:=hst.o.cell (j:=1) rfl;clear hst;go_simp;try go_bits
   exact kz _ rfl
  apply GChV.v2
  ·rfl
  ·intro K' a wy ho hd hb hK kz;have o11:=ho 11 (by decide);simp [slot] at o11;clear hd ho;go_simp;try go_bits
   exact kz _ rfl
  apply GChV.v3
  ·rfl
  ·intro K' a wy ho hd hb hK kz;have o3:=ho 3 (by decide);simp [slot] at o3;clear hd ho;go_simp;try go_bits
   exact kz _ rfl
  apply GChV.v4
  ·rfl
  ·intro K' a wy ho hd hb hK kz;have o4:=ho 4 (by decide);simp [slot] at o4;clear hd ho;go_simp;try go_bits
   exact kz _ rfl
  apply GChV.v5
  ·rfl
  ·intro K' a wy ho hd hb hK kz;have q4:=hd ⟨4,.data⟩ (by simp) rfl;simp [rAt,IsV,slot] at q4;clear hd ho;have hst:=HCP.out wy hb;have HHt:=hst.at mE3;have t0:=HHt.cell (j:=0) rfl;clear HHt;have HHp:=hst.at mE1;obtain ⟨-,-,-,-,-,p5,p6,p7,p8,p9⟩:=HHp.c10;clear HHp;have k1:=hst.o.cell (j:=1) rfl;clear hst;go_simp;try go_bits
   exact kz _ rfl
  apply GChV.v6
  ·rfl
  ·intro K' a wy ho hd hb hK kz;have o6:=ho 6 (by decide);simp [slot] at o6;clear hd ho;go_simp;try go_bits
   exact kz _ rfl
  apply GChV.v7
  ·rfl
  ·intro K' a wy ho hd hb hK kz;have q6:=hd ⟨6,.data⟩ (by simp) rfl;simp [rAt,IsV,slot] at q6;clear hd ho;have hst:=HCP.out wy hb;have HHt:=hst.at mE3;have t0:=HHt.cell (j:=0) rfl;clear HHt;have HHp:=hst.at mE1;obtain ⟨-,-,-,-,-,p5,p6,p7,p8,p9⟩:=HHp.c10;clear HHp;have k1:=hst.o.cell (j:=1) rfl;clear hst;go_simp;try go_bits
   exact kz _ rfl
  apply GChV.v8
  ·rfl
  ·intro K' a wy ho hd hb hK kz;have o13:=ho 13 (by decide);simp [slot] at o13;clear hd ho;go_simp;try go_bits
   exact kz _ rfl
  apply GChV.v9
  ·rfl
  ·intro K' a wy ho hd hb hK kz;have q5:=hd ⟨5,.data⟩ (by simp) rfl;have q7:=hd ⟨7,.data⟩ (by simp) rfl;have q8:=hd ⟨8,.data⟩ (by simp) rfl;simp [rAt,IsV,slot] at q5 q7 q8;clear hd ho;go_simp;refine (HLG.out wy).mono ?_;rintro e wz ⟨rfl,hz⟩;exact hK _ _ rfl hz
  apply GChV.v10
  ·rfl
  ·intro K' a wy ho hd hb hK kz;have q3:=hd ⟨3,.data⟩ (by simp) rfl;have q9:=hd ⟨9,.data⟩ (by simp) rfl;simp [rAt,IsV,slot] at q3 q9;clear hd ho;go_simp;try go_bits
   exact kz _ rfl
  apply GChV.v11
  ·rfl
  ·intro K' a wy ho hd hb hK kz;have q1:=hd ⟨1,.data⟩ (by simp) rfl;have q2:=hd ⟨2,.data⟩ (by simp) rfl;simp [rAt,IsV,slot] at q1 q2;clear hd ho;go_simp;try go_bits
   exact kz _ rfl
  apply GChV.v12
  ·rfl
  ·intro K' a wy ho hd hb hK kz;have q11:=hd ⟨11,.data⟩ (by simp) rfl;simp [rAt,IsV,slot] at q11;clear hd ho;go_simp;try go_bits
   exact kz _ rfl
  intro X wz hR hz;obtain ⟨x0,x1,x2,x3,x4,x5,x6,x7,x8,x9,x10,x11,x12,-⟩:=hR;simp only [IsV] at x0 x1 x2 x3 x4 x5 x6 x7 x8 x9 x10 x11 x12;simp only [putsFrom,x0,x1,x2,x3,x4,x5,x6,x7,x8,x9,x10,x11,x12];clear x0 x1 x2 x3 x4 x5 x6 x7 x8 x9 x10 x11 x12;have SZ:=HCP.out wz hz;have hls:x.sess.length=(x.sess.set j { s with state:=st }).length:=by simp
  have r6:wz.cell? ⟨gs,j*7+6,none⟩=some (iV s.untl):=own_at SZ.so hls j (by simpa using hlt) 6 _ (by simp [ssL]);have f6:wz.frozen? ⟨gs,j*7+6,none⟩=false:=own_free SZ.so _;have S8:=SZ.setS hls j (by simpa using hlt) 6 (by decide) (iV (now+lf)) { s with state:=st,untl:=now+lf } (by simp [ssL]);rw [List.set_set] at S8;have S9:Hid _:=S8;clear S8 SZ hz HCP hls;simp only [List.length_cons,List.length_nil,List.drop_succ_cons,List.drop_zero,Nat.zero_add,Nat.reduceAdd];intro K5 hK5;go_simp;refine hK5 _ _ ?_;simp only [wpSeq];clear r6 f6;generalize wz.setCell ⟨gs,j*7+6,none⟩ (iV (now+lf))=W9 at *;obtain ⟨k0,k1⟩:=S9.out.o.c2;have HHx:=S9.out.at mE0;obtain ⟨x0,x1,x2,x3,x4⟩:=HHx.c5;clear HHx;have HHz:=S9.out.at mE4;obtain ⟨z0,z1,z2,z3,z4,z5,z6,z7⟩:=HHz.c8;obtain ⟨zf0,zf1,zf2,zf3,zf4,zf5,zf6,zf7⟩:=HHz.f8;have HRR:Hid (HoldsL ((sW (sW (sW (sW (sW (sW (sW W9 (w.heap.size+1+1+1) 0 ((.slice ab x.binds.length cb1))) (w.heap.size+1+1+1) 1 ((.slice (some ⟨gs,0,none⟩) x.sess.length cs1))) (w.heap.size+1+1+1) 2 (iV c.proto)) (w.heap.size+1+1+1) 3 (.string c.inn)) (w.heap.size+1+1+1) 4 (iV c.inPort)) (w.heap.size+1+1+1) 5 (.string c.out)) (w.heap.size+1+1+1) 6 (iV c.outPort)).setCell ⟨w.heap.size+1+1+1,7,none⟩ (iV 0)) (w.heap.size+1+1+1) [(.slice ab x.binds.length cb1),(.slice (some ⟨gs,0,none⟩) x.sess.length cs1),iV c.proto,.string c.inn,iV c.inPort,.string c.out,iV c.outPort,iV 0]):=((((((((HHz.set 0 ((.slice ab x.binds.length cb1))).set 1 ((.slice (some ⟨gs,0,none⟩) x.sess.length cs1))).set 2 (iV c.proto)).set 3 (.string c.inn)).set 4 (iV c.inPort)).set 5 (.string c.out)).set 6 (iV c.outPort)).set 7 (iV 0));have RB:Hid _:=((((((((S9.out.b.setCell (p:=⟨w.heap.size+1+1+1,0,none⟩) hRw ((.slice ab x.binds.length cb1))).setCell (p:=⟨w.heap.size+1+1+1,1,none⟩) hRw ((.slice (some ⟨gs,0,none⟩) x.sess.length cs1))).setCell (p:=⟨w.heap.size+1+1+1,2,none⟩) hRw (iV c.proto)).setCell (p:=⟨w.heap.size+1+1+1,3,none⟩) hRw (.string c.inn)).setCell (p:=⟨w.heap.size+1+1+1,4,none⟩) hRw (iV c.inPort)).setCell (p:=⟨w.heap.size+1+1+1,5,none⟩) hRw (.string c.out)).setCell (p:=⟨w.heap.size+1+1+1,6,none⟩) hRw (iV c.outPort)).setCell (p:=⟨w.heap.size+1+1+1,7,none⟩) hRw (iV 0));clear HHz;obtain ⟨a1,q1,hb1,-,hbo⟩:=S9.out.shapes.1;obtain ⟨a2,q2,hb2,-,hso⟩:=S9.out.shapes.2;injection hb1 with i1 i2 i3
  injection hb2 with i4 i5 i6
  have hRb:w.heap.size+1+1+1 < base:=(S9.out.kb _ mE4).1;have hwb:=S9.out.wb;have HOW:Hid (BbOwn w.heap.size ((sW (sW (sW (sW (sW (sW (sW W9 (w.heap.size+1+1+1) 0 ((.slice ab x.binds.length cb1))) (w.heap.size+1+1+1) 1 ((.slice (some ⟨gs,0,none⟩) x.sess.length cs1))) (w.heap.size+1+1+1) 2 (iV c.proto)) (w.heap.size+1+1+1) 3 (.string c.inn)) (w.heap.size+1+1+1) 4 (iV c.inPort)) (w.heap.size+1+1+1) 5 (.string c.out)) (w.heap.size+1+1+1) 6 (iV c.outPort)).setCell ⟨w.heap.size+1+1+1,7,none⟩ (iV 0)) a1 a2 ⟨x.binds,x.sess.set j { s with state:=st,untl:=now+lf }⟩):=⟨(hbo.grown (grown_set (grown_set (grown_set (grown_set (grown_set (grown_set (grown_set (grown_set (World.grownBy.refl _ _) _) _) _) _) _) _) _) _) hRb).down hwb,(hso.grown (grown_set (grown_set (grown_set (grown_set (grown_set (grown_set (grown_set (grown_set (World.grownBy.refl _ _) _) _) _) _) _) _) _) _) hRb).down hwb,fun g h e1 e2 _ _ e3=>S9.out.ne g (by rw [i1,e1]; rfl) (by rw [i4,e2,← e3]; rfl)⟩;have I1:Hid _:=i1;have I2:Hid _:=i2;have I3:Hid _:=i3;have I4:Hid _:=i4;have I5:Hid _:=i5;have I6:Hid _:=i6;clear hbo hso S9 i1 i2 i3 i4 i5 i6;go_wp2_with fail
  exact bodyPost_ret (results_mid Tryz.results85 _ _ _ _ _ rfl HRR.out Tryz.underlying96 rfl (show (Tryz.prog.info? 96).map (·.size)=some 8 by kernel_rfl)) rfl (And.intro (by rw [HW.out]; exact ⟨a1,a2,q1,q2,by first | (rw [I1.out,I3.out,I4.out,I5.out,I6.out]; rfl) | (rw [I1.out,I3.out,I4.out,I6.out]; simp [boC]),HOW.out⟩) RB.out)
def IsBv (base:Nat) (o:Bo):Value→World→Prop:=fun v w=>∃ a b ca cb,v=boC a b ca cb o∧BbOwn base w a b o.bib
theorem stable_isBv (base:Nat) (o:Bo):Stable (IsBv base o):=fun v w w' ⟨a,b,ca,cb,h1,h2⟩ hb=>⟨a,b,ca,cb,h1,h2.kept hb⟩
theorem sp9Ok_any (pa:Option Addr) (pc:Nat) (p:Pl) (ba bo:Option Addr) (ca cb:Nat) (x:Bb) (q:P4) (now:Int) (w:World) (hlp:p.addrs.length≤1048576) (hpc:p.addrs.length≤pc) (hsz:∀ s∈p.addrs,s.size≤1048576) (hl1:x.binds.length≤1048576) (hl2:x.sess.length≤1048576) (q1:q.src.size≤1048576) (q2:q.dst.size≤1048576) (q3:q.opts.size≤1048576) (q4:q.data.size≤1048576) (hp:SlIs strL1 1 w pa p.addrs) (hx:BbIs w ba bo x) :
  Cb 28 #[plC pa pc p,bbC ba bo ca cb x,p4C q,iV now] w (iV (natFt p x q now)):=by
 have HBR:Hid (∀ W,Below w.heap.size w W→Cb 50 #[plC pa pc p,bbC ba bo ca cb x] W (.bool (bibOk p x))):=fun W hW=>specBib_any p x pa pc ba bo ca cb W hlp hpc hsz hl1 hl2 (hp.below hW) (hx.below hW)
 have HV4:Hid (∀ W,Cb 51 #[p4C q] W (.bool (v4Ok q))):=fun W=>specV4Right_any q W q1 q2 q3 q4
 have HTM:Hid (∀ W,Cw 52 #[iV now] W (.bool (isTime now))):=fun W=>spTime_any now W
 have HV:Hid (natFt p x q now=if (bibOk p x&&v4Ok q&&isTime now)=false then 1 else if (q.more||decide (q.off≠0))=true then 10 else 0):=rfl;generalize natFt p x q now=ans at *;generalize bibOk p x=b1 at *;generalize v4Ok q=b2 at *;generalize isTime now=b3 at *;obtain ⟨tos,id,whole,more,off,ttl,proto,src,dst,opts,data⟩:=q;clear hp hx hsz;unfold plC bbC p4C at *;dsimp only at *;have hun:undef=Value.tuple #[]:=rfl;have HS0:=bx3 w (PlV pa pc p) 48 (BbV ba ca bo cb x) 39 (P4R tos id whole more off ttl proto src dst opts data) 40 (by simp) (by simp) (by simp)
 skip;go_enter Tryz.func28,Tryz.ntmps28
 go_upto_region 1 with fail
 generalize ((aW (aW w (PlV pa pc p) 48) (BbV ba ca bo cb x) 39).alloc (.cells (P4R tos id whole more off ttl proto src dst opts data).toArray 40))=W0 at *;have HHk:=HS0.out.at mE0;obtain ⟨k0,k1,k2,k3,k4,k5,k6,k7,k8,k9⟩:=HHk.c10;clear HHk;have HHl:=HS0.out.at mE1;obtain ⟨l0,l1⟩:=HHl.c2;clear HHl;go_wp2_with fail
 refine (HBR.out _ HS0.out.b).mono ?_;rintro e W1 ⟨rfl,r1⟩;have S1:Hid _:=HS0.out.kept r1;clear r1 HS0 k0 k1 k2 k3 k4 k5 k6 k7 k8 k9 l0 l1
 cases b1 with
 | false =>
  have HFB:Hid _:=S1.out.b;go_wp2_with fail
  go_ret;exact ⟨ret_int (by rw [HV.out]; rfl),HFB.out⟩
 | true =>
 have HHk:=S1.out.at mE2;obtain ⟨k0,k1,k2,k3,k4,k5,k6,k7,k8,k9,k10⟩:=HHk.c11;clear HHk;go_wp2_with fail
 refine (HV4.out _).mono ?_;rintro e W2 ⟨rfl,r2⟩;have S2:Hid _:=S1.out.kept r2;clear r2 S1 k0 k1 k2 k3 k4 k5 k6 k7 k8 k9 k10
 cases b2 with
 | false =>
  have HFB:Hid _:=S2.out.b;go_wp2_with fail
  go_ret;exact ⟨ret_int (by rw [HV.out]; rfl),HFB.out⟩
 | true =>
 go_wp2_with fail
 refine (HTM.out _).mono ?_;rintro e W2 ⟨rfl,rfl⟩
 cases b3 with
 | false =>
  have HFB:Hid _:=S2.out.b;go_wp2_with fail
  go_ret;exact ⟨ret_int (by rw [HV.out]; rfl),HFB.out⟩
 | true =>
 have HHk:=S2.out.at mE2;obtain ⟨k0,k1,k2,k3,k4,k5,k6,k7,k8,k9,k10⟩:=HHk.c11;clear HHk
 cases more with
 | true =>
  have HFB:Hid _:=S2.out.b;go_wp2_with fail
  go_ret;exact ⟨ret_int (by rw [HV.out]; rfl),HFB.out⟩
 | false =>
 by_cases ho:off=0
 case pos =>
  have d0:(off != 0)=false:=by simp [ho]
  have HFB:Hid _:=S2.out.b;go_wp2_with fail
  go_ret;exact ⟨ret_int (by rw [HV.out]; simp [ho]),HFB.out⟩
 have d0:(off != 0)=true:=by simp [ho]
 have HFB:Hid _:=S2.out.b;go_wp2_with fail
 go_ret;exact ⟨ret_int (by rw [HV.out]; simp [ho]),HFB.out⟩
theorem sp9Go_any (pa:Option Addr) (pc:Nat) (p:Pl) (ba bo:Option Addr) (ca cb:Nat) (x:Bb) (f:Fl) (peer t:ByteArray) (now:Int) (w:World) (hpo:poolOk p=true) (hnow:isTime now=true) (hfs:f.src.size≤1048576) (h0:0≤f.sp) (h1:f.sp≤65535) (ht:t.size≤1048576) (h20:f.proto=6→20≤t.size) (hl1:x.binds.length≤1048576) (hl2:x.sess.length≤1048576) (hp:SlIs strL1 1 w pa p.addrs) (hx:BbIs w ba bo x) :
  Calls Tryz.prog 54 #[plC pa pc p,bbC ba bo ca cb x,fwC f,.string peer,.string t,iV now] w fun e w'=>BoRet w.heap.size (goV p x (goT f peer t) now) e w'∧Below w.heap.size w w':=by
 have HGO:Hid (∀ W,Below w.heap.size w W→Calls Tryz.prog 85 #[plC pa pc p,bbC ba bo ca cb x,.agg (TcR (protoN f.proto) true f.src f.sp peer (peerV f.proto f.dp) (flagV f.proto t)).toArray,iV now] W fun e w'=>BoRet W.heap.size (goV p x (goT f peer t) now) e w'∧Below W.heap.size W w'):=fun W hW=>spGo_any pa pc p ba bo ca cb x (goT f peer t) now W hpo hnow hfs h0 h1 hl1 hl2 (hp.below hW) (hx.below hW)
 have HPN:Hid (∀ W,Cb 86 #[iV f.proto] W (iV (protoN f.proto))):=fun W=>(sp9Proto_any _ W).mono fun e w' h=>⟨h.1,by rw [h.2]; exact Below.refl _ _⟩
 have HPO:Hid (∀ W,Cb 87 #[fwC f,iV f.dp] W (iV (peerV f.proto f.dp))):=fun W=>sp9Port_any f _ W
 have HFL:Hid (∀ W,Cb 88 #[fwC f,.string t] W (iV (flagV f.proto t))):=fun W=>sp9Flags_any f t W ht h20
 generalize goV p x (goT f peer t) now=nv at *;generalize peerV f.proto f.dp=pv at *;generalize protoN f.proto=pn at *;generalize flagV f.proto t=fv at *;obtain ⟨proto,src,dst,sp,dp⟩:=f;dsimp only at *;clear hp hx hpo hnow h20;unfold plC bbC fwC at *;dsimp only at *;have HS0:=bx4 w (PlV pa pc p) 48 (BbV ba ca bo cb x) 39 (FlR proto src dst sp dp) 91 [.slice none 0 0,.slice none 0 0,iV 0,.string ⟨#[]⟩,iV 0,.string ⟨#[]⟩,iV 0,iV 0] 96 (by simp) (by simp) (by simp) (by simp)
 skip;have hRw:w.heap.size≤w.heap.size+1+1+1:=by omega
 go_enter Tryz.func54,Tryz.ntmps54
 go_upto_region 1 with fail
 generalize ((aW (aW (aW w (PlV pa pc p) 48) (BbV ba ca bo cb x) 39) (FlR proto src dst sp dp) 91).alloc (.cells #[.slice none 0 0,.slice none 0 0,iV 0,.string ⟨#[]⟩,iV 0,.string ⟨#[]⟩,iV 0,iV 0] 96))=W0 at *;have hR0:w.heap.size+1+1+1 < W0.heap.size:=(HS0.out.k _ mE3).lt (by simp);have HCP:Hid (∀ wy,Below W0.drew.heap.size W0.drew wy→_):=fun wy hy=>HS0.out.kept ((Below.refl _ _).drew.trans hy)
 have hRl:w.heap.size+1+1+1 < W0.drew.heap.size:=hR0;have hwl:w.heap.size≤W0.drew.heap.size:=HS0.out.b.size;clear HS0 hR0;refine wp_region_growV [13,14,15,16,17,18,19,20,21,22,23,24,25,26,27,28,29,30,31,32] (by kernel_rfl) (by kernel_rfl) ?_;apply GChV.v0
 ·rfl
 ·intro K' a wy ho hd hb hK kz;have o6:=ho 6 (by decide);simp [slot] at o6;clear hd ho;have hst:=HCP.out wy hb;have HHk:=hst.at mE0;obtain ⟨k0,k1,k2,k3,k4,k5,k6,k7,k8,k9⟩:=HHk.c10;clear HHk;have HHl:=hst.at mE1;obtain ⟨l0,l1⟩:=HHl.c2;clear HHl;have HHm:=hst.at mE2;obtain ⟨m0,m1,m2,m3,m4⟩:=HHm.c5;clear HHm;clear hst;go_simp;try go_bits
  exact kz _ rfl
 apply GChV.v1
 ·rfl
 ·intro K' a wy ho hd hb hK kz;have o7:=ho 7 (by decide);simp [slot] at o7;clear hd ho;have hst:=HCP.out wy hb;have HHk:=hst.at mE0;obtain ⟨k0,k1,k2,k3,k4,k5,k6,k7,k8,k9⟩:=HHk.c10;clear HHk;have HHl:=hst.at mE1;obtain ⟨l0,l1⟩:=HHl.c2;clear HHl;have HHm:=hst.at mE2;obtain ⟨m0,m1,m2,m3,m4⟩:=HHm.c5;clear HHm;clear hst;go_simp;try go_bits
  exact kz _ rfl
 apply GChV.v2
 ·rfl
 ·intro K' a wy ho hd hb hK kz;have o8:=ho 8 (by decide);simp [slot] at o8;clear hd ho;go_simp;try go_bits
  exact kz _ rfl
 apply GChV.v3
 ·rfl
 ·intro K' a wy ho hd hb hK kz;have q2:=hd ⟨2,.data⟩ (by simp) rfl;simp [rAt,IsV,slot] at q2;clear hd ho;have hst:=HCP.out wy hb;have HHk:=hst.at mE0;obtain ⟨k0,k1,k2,k3,k4,k5,k6,k7,k8,k9⟩:=HHk.c10;clear HHk;have HHl:=hst.at mE1;obtain ⟨l0,l1⟩:=HHl.c2;clear HHl;have HHm:=hst.at mE2;obtain ⟨m0,m1,m2,m3,m4⟩:=HHm.c5;clear HHm;clear hst;go_simp;try go_bits
  exact kz _ rfl
 apply GChV.v4
 ·rfl
 ·intro K' a wy ho hd hb hK kz;have q3:=hd ⟨3,.data⟩ (by simp) rfl;simp [rAt,IsV,slot] at q3;clear hd ho;go_simp;refine (HPN.out wy).mono ?_;rintro e wz ⟨rfl,hz⟩;exact hK _ _ rfl hz
 apply GChV.v5
 ·rfl
 ·intro K' a wy ho hd hb hK kz;have o8:=ho 8 (by decide);simp [slot] at o8;clear hd ho;go_simp;try go_bits
  exact kz _ rfl
 apply GChV.v6
 ·rfl
 ·intro K' a wy ho hd hb hK kz;have q5:=hd ⟨5,.data⟩ (by simp) rfl;simp [rAt,IsV,slot] at q5;clear hd ho;have hst:=HCP.out wy hb;have HHk:=hst.at mE0;obtain ⟨k0,k1,k2,k3,k4,k5,k6,k7,k8,k9⟩:=HHk.c10;clear HHk;have HHl:=hst.at mE1;obtain ⟨l0,l1⟩:=HHl.c2;clear HHl;have HHm:=hst.at mE2;obtain ⟨m0,m1,m2,m3,m4⟩:=HHm.c5;clear HHm;clear hst;go_simp;try go_bits
  exact kz _ rfl
 apply GChV.v7
 ·rfl
 ·intro K' a wy ho hd hb hK kz;have o8:=ho 8 (by decide);simp [slot] at o8;clear hd ho;go_simp;try go_bits
  exact kz _ rfl
 apply GChV.v8
 ·rfl
 ·intro K' a wy ho hd hb hK kz;have q7:=hd ⟨7,.data⟩ (by simp) rfl;simp [rAt,IsV,slot] at q7;clear hd ho;have hst:=HCP.out wy hb;have HHk:=hst.at mE0;obtain ⟨k0,k1,k2,k3,k4,k5,k6,k7,k8,k9⟩:=HHk.c10;clear HHk;have HHl:=hst.at mE1;obtain ⟨l0,l1⟩:=HHl.c2;clear HHl;have HHm:=hst.at mE2;obtain ⟨m0,m1,m2,m3,m4⟩:=HHm.c5;clear HHm;clear hst;go_simp;try go_bits
  exact kz _ rfl
 apply GChV.v9
 ·rfl
 ·intro K' a wy ho hd hb hK kz;have o3:=ho 3 (by decide);simp [slot] at o3;clear hd ho;go_simp;try go_bits
  exact kz _ rfl
 apply GChV.v10
 ·rfl
 ·intro K' a wy ho hd hb hK kz;have o8:=ho 8 (by decide);simp [slot] at o8;clear hd ho;have hst:=HCP.out wy hb;have HHk:=hst.at mE0;obtain ⟨k0,k1,k2,k3,k4,k5,k6,k7,k8,k9⟩:=HHk.c10;clear HHk;have HHl:=hst.at mE1;obtain ⟨l0,l1⟩:=HHl.c2;clear HHl;have HHm:=hst.at mE2;obtain ⟨m0,m1,m2,m3,m4⟩:=HHm.c5;clear HHm;clear hst;go_simp;try go_bits
  exact kz _ rfl
 apply GChV.v11
 ·rfl
 ·intro K' a wy ho hd hb hK kz;have o8:=ho 8 (by decide);simp [slot] at o8;clear hd ho;go_simp;try go_bits
  exact kz _ rfl
 apply GChV.v12
 ·rfl
 ·intro K' a wy ho hd hb hK kz;have q11:=hd ⟨11,.data⟩ (by simp) rfl;simp [rAt,IsV,slot] at q11;clear hd ho;have hst:=HCP.out wy hb;have HHk:=hst.at mE0;obtain ⟨k0,k1,k2,k3,k4,k5,k6,k7,k8,k9⟩:=HHk.c10;clear HHk;have HHl:=hst.at mE1;obtain ⟨l0,l1⟩:=HHl.c2;clear HHl;have HHm:=hst.at mE2;obtain ⟨m0,m1,m2,m3,m4⟩:=HHm.c5;clear HHm;clear hst;go_simp;try go_bits
  exact kz _ rfl
 apply GChV.v13
 ·rfl
 ·intro K' a wy ho hd hb hK kz;have q10:=hd ⟨10,.data⟩ (by simp) rfl;have q12:=hd ⟨12,.data⟩ (by simp) rfl;simp [rAt,IsV,slot] at q10 q12;clear hd ho;go_simp;refine (HPO.out wy).mono ?_;rintro e wz ⟨rfl,hz⟩;exact hK _ _ rfl hz
 apply GChV.v14
 ·rfl
 ·intro K' a wy ho hd hb hK kz;have o8:=ho 8 (by decide);simp [slot] at o8;clear hd ho;have hst:=HCP.out wy hb;have HHk:=hst.at mE0;obtain ⟨k0,k1,k2,k3,k4,k5,k6,k7,k8,k9⟩:=HHk.c10;clear HHk;have HHl:=hst.at mE1;obtain ⟨l0,l1⟩:=HHl.c2;clear HHl;have HHm:=hst.at mE2;obtain ⟨m0,m1,m2,m3,m4⟩:=HHm.c5;clear HHm;clear hst;go_simp;try go_bits
  exact kz _ rfl
 apply GChV.v15
 ·rfl
 ·intro K' a wy ho hd hb hK kz;have o4:=ho 4 (by decide);simp [slot] at o4;clear hd ho;go_simp;try go_bits
  exact kz _ rfl
 apply GChV.v16
 ·rfl
 ·intro K' a wy ho hd hb hK kz;have q14:=hd ⟨14,.data⟩ (by simp) rfl;have q15:=hd ⟨15,.data⟩ (by simp) rfl;simp [rAt,IsV,slot] at q14 q15;clear hd ho;go_simp;refine (HFL.out wy).mono ?_;rintro e wz ⟨rfl,hz⟩;exact hK _ _ rfl hz
 apply GChV.v17
 ·rfl
 ·intro K' a wy ho hd hb hK kz;have q4:=hd ⟨4,.data⟩ (by simp) rfl;have q6:=hd ⟨6,.data⟩ (by simp) rfl;have q8:=hd ⟨8,.data⟩ (by simp) rfl;have q9:=hd ⟨9,.data⟩ (by simp) rfl;have q13:=hd ⟨13,.data⟩ (by simp) rfl;have q16:=hd ⟨16,.data⟩ (by simp) rfl;simp [rAt,IsV,slot] at q4 q6 q8 q9 q13 q16;clear hd ho;go_simp;try go_bits
  exact kz _ rfl
 apply GChV.v18
 ·rfl
 ·intro K' a wy ho hd hb hK kz;have o5:=ho 5 (by decide);simp [slot] at o5;clear hd ho;go_simp;try go_bits
  exact kz _ rfl
 refine GChV.rel (n:=19) (IsBv W0.drew.heap.size nv) (stable_isBv _ _) [_,_,_,_,_,_,_,_,_,_,_,_,_,_,_,_,_,_,_,IsBv W0.drew.heap.size nv] rfl rfl ?_ ?_
 ·intro K' a wy ho hd hb hK;rw [wN rfl];have q0:=hd ⟨0,.data⟩ (by simp) rfl;have q1:=hd ⟨1,.data⟩ (by simp) rfl;have q17:=hd ⟨17,.data⟩ (by simp) rfl;have q18:=hd ⟨18,.data⟩ (by simp) rfl;simp [rAt,IsV,slot] at q0 q1 q17 q18;clear hd ho;go_simp;have hst:=HCP.out wy hb;refine (HGO.out wy hst.b).mono ?_;rintro e wz ⟨⟨a9,b9,c9,d9,rfl,hown⟩,hz⟩;exact hK _ _ ⟨a9,b9,c9,d9,rfl,⟨hown.bd.down hb.size,hown.ss.down hb.size,hown.ne⟩⟩ hz
 intro X wz hR hz;obtain ⟨x0,x1,x2,x3,x4,x5,x6,x7,x8,x9,x10,x11,x12,x13,x14,x15,x16,x17,x18,x19,-⟩:=hR;obtain ⟨a9,b9,c9,d9,e9,own9⟩:=x19;unfold boC at e9;simp only [IsV] at x0 x1 x2 x3 x4 x5 x6 x7 x8 x9 x10 x11 x12 x13 x14 x15 x16 x17 x18;simp only [putsFrom,x0,x1,x2,x3,x4,x5,x6,x7,x8,x9,x10,x11,x12,x13,x14,x15,x16,x17,x18,e9];clear x0 x1 x2 x3 x4 x5 x6 x7 x8 x9 x10 x11 x12 x13 x14 x15 x16 x17 x18;have V7:Hid (Bxs w [(w.heap.size,(PlV pa pc p)),(w.heap.size+1,(BbV ba ca bo cb x)),(w.heap.size+1+1,(FlR proto src dst sp dp)),(w.heap.size+1+1+1,[.slice none 0 0,.slice none 0 0,iV 0,.string ⟨#[]⟩,iV 0,.string ⟨#[]⟩,iV 0,iV 0])] wz):=HCP.out wz hz;clear hz HCP;have HHz:=V7.out.at mE3;obtain ⟨z0,z1,z2,z3,z4,z5,z6,z7⟩:=HHz.c8;obtain ⟨zf0,zf1,zf2,zf3,zf4,zf5,zf6,zf7⟩:=HHz.f8;have HRR:Hid (HoldsL ((sW (sW (sW (sW (sW (sW (sW wz (w.heap.size+1+1+1) 0 (.slice a9 nv.bib.binds.length c9)) (w.heap.size+1+1+1) 1 (.slice b9 nv.bib.sess.length d9)) (w.heap.size+1+1+1) 2 (iV nv.bind.proto)) (w.heap.size+1+1+1) 3 (.string nv.bind.inn)) (w.heap.size+1+1+1) 4 (iV nv.bind.inPort)) (w.heap.size+1+1+1) 5 (.string nv.bind.out)) (w.heap.size+1+1+1) 6 (iV nv.bind.outPort)).setCell ⟨w.heap.size+1+1+1,7,none⟩ (iV nv.code)) (w.heap.size+1+1+1) [.slice a9 nv.bib.binds.length c9,.slice b9 nv.bib.sess.length d9,iV nv.bind.proto,.string nv.bind.inn,iV nv.bind.inPort,.string nv.bind.out,iV nv.bind.outPort,iV nv.code]):=((((((((HHz.set 0 (.slice a9 nv.bib.binds.length c9)).set 1 (.slice b9 nv.bib.sess.length d9)).set 2 (iV nv.bind.proto)).set 3 (.string nv.bind.inn)).set 4 (iV nv.bind.inPort)).set 5 (.string nv.bind.out)).set 6 (iV nv.bind.outPort)).set 7 (iV nv.code));have RB:Hid _:=((((((((V7.out.b.setCell (p:=⟨w.heap.size+1+1+1,0,none⟩) hRw (.slice a9 nv.bib.binds.length c9)).setCell (p:=⟨w.heap.size+1+1+1,1,none⟩) hRw (.slice b9 nv.bib.sess.length d9)).setCell (p:=⟨w.heap.size+1+1+1,2,none⟩) hRw (iV nv.bind.proto)).setCell (p:=⟨w.heap.size+1+1+1,3,none⟩) hRw (.string nv.bind.inn)).setCell (p:=⟨w.heap.size+1+1+1,4,none⟩) hRw (iV nv.bind.inPort)).setCell (p:=⟨w.heap.size+1+1+1,5,none⟩) hRw (.string nv.bind.out)).setCell (p:=⟨w.heap.size+1+1+1,6,none⟩) hRw (iV nv.bind.outPort)).setCell (p:=⟨w.heap.size+1+1+1,7,none⟩) hRw (iV nv.code));clear HHz;have HOW:Hid (BbOwn w.heap.size ((sW (sW (sW (sW (sW (sW (sW wz (w.heap.size+1+1+1) 0 (.slice a9 nv.bib.binds.length c9)) (w.heap.size+1+1+1) 1 (.slice b9 nv.bib.sess.length d9)) (w.heap.size+1+1+1) 2 (iV nv.bind.proto)) (w.heap.size+1+1+1) 3 (.string nv.bind.inn)) (w.heap.size+1+1+1) 4 (iV nv.bind.inPort)) (w.heap.size+1+1+1) 5 (.string nv.bind.out)) (w.heap.size+1+1+1) 6 (iV nv.bind.outPort)).setCell ⟨w.heap.size+1+1+1,7,none⟩ (iV nv.code)) a9 b9 nv.bib):=⟨(own9.bd.grown (grown_set (grown_set (grown_set (grown_set (grown_set (grown_set (grown_set (grown_set (World.grownBy.refl _ _) _) _) _) _) _) _) _) _) hRl).down hwl,(own9.ss.grown (grown_set (grown_set (grown_set (grown_set (grown_set (grown_set (grown_set (grown_set (World.grownBy.refl _ _) _) _) _) _) _) _) _) _) hRl).down hwl,own9.ne⟩
 clear own9 V7 HGO;intro K10 hK10;go_simp;refine hK10 _ _ ?_;simp only [wpSeq];go_wp2_with fail
 exact bodyPost_ret (results_mid Tryz.results54 _ _ _ _ _ rfl HRR.out Tryz.underlying96 rfl (show (Tryz.prog.info? 96).map (·.size)=some 8 by kernel_rfl)) rfl (And.intro ⟨a9,b9,c9,d9,rfl,HOW.out⟩ RB.out)
theorem sp9Come_any (pa:Option Addr) (pc:Nat) (p:Pl) (ba bo:Option Addr) (ca cb:Nat) (x:Bb) (f:Fl) (t:ByteArray) (now:Int) (w:World) (hpo:poolOk p=true) (hnow:isTime now=true) (hfs:f.dst.size≤1048576) (h0:0≤f.dp) (h1:f.dp≤65535) (ht:t.size≤1048576) (h20:f.proto=6→20≤t.size) (hl1:x.binds.length≤1048576) (hl2:x.sess.length≤1048576) (hp:SlIs strL1 1 w pa p.addrs) (hx:BbIs w ba bo x) :
  Calls Tryz.prog 70 #[plC pa pc p,bbC ba bo ca cb x,fwC f,.string t,iV now] w fun e w'=>BoRet w.heap.size (goV p x (comeT f t) now) e w'∧Below w.heap.size w w':=by
 have HGO:Hid (∀ W,Below w.heap.size w W→Calls Tryz.prog 85 #[plC pa pc p,bbC ba bo ca cb x,.agg (TcR f.proto false f.dst f.dp f.src (peerV f.proto f.sp) (flagV f.proto t)).toArray,iV now] W fun e w'=>BoRet W.heap.size (goV p x (comeT f t) now) e w'∧Below W.heap.size W w'):=fun W hW=>spGo_any pa pc p ba bo ca cb x (comeT f t) now W hpo hnow hfs h0 h1 hl1 hl2 (hp.below hW) (hx.below hW)
 have HPO:Hid (∀ W,Cb 87 #[fwC f,iV f.sp] W (iV (peerV f.proto f.sp))):=fun W=>sp9Port_any f _ W
 have HFL:Hid (∀ W,Cb 88 #[fwC f,.string t] W (iV (flagV f.proto t))):=fun W=>sp9Flags_any f t W ht h20
 generalize goV p x (comeT f t) now=nv at *;generalize peerV f.proto f.sp=pv at *;generalize flagV f.proto t=fv at *;obtain ⟨proto,src,dst,sp,dp⟩:=f;dsimp only at *;clear hp hx hpo hnow h20;unfold plC bbC fwC at *;dsimp only at *;have HS0:=bx4 w (PlV pa pc p) 48 (BbV ba ca bo cb x) 39 (FlR proto src dst sp dp) 91 [.slice none 0 0,.slice none 0 0,iV 0,.string ⟨#[]⟩,iV 0,.string ⟨#[]⟩,iV 0,iV 0] 96 (by simp) (by simp) (by simp) (by simp)
 skip;have hRw:w.heap.size≤w.heap.size+1+1+1:=by omega
 go_enter Tryz.func70,Tryz.ntmps70
 go_upto_region 1 with fail
 generalize ((aW (aW (aW w (PlV pa pc p) 48) (BbV ba ca bo cb x) 39) (FlR proto src dst sp dp) 91).alloc (.cells #[.slice none 0 0,.slice none 0 0,iV 0,.string ⟨#[]⟩,iV 0,.string ⟨#[]⟩,iV 0,iV 0] 96))=W0 at *;have hR0:w.heap.size+1+1+1 < W0.heap.size:=(HS0.out.k _ mE3).lt (by simp);have HCP:Hid (∀ wy,Below W0.drew.heap.size W0.drew wy→_):=fun wy hy=>HS0.out.kept ((Below.refl _ _).drew.trans hy)
 have hRl:w.heap.size+1+1+1 < W0.drew.heap.size:=hR0;have hwl:w.heap.size≤W0.drew.heap.size:=HS0.out.b.size;clear HS0 hR0;refine wp_region_growV [11,12,13,14,15,16,17,18,19,20,21,22,23,24,25,26,27,28,29,30] (by kernel_rfl) (by kernel_rfl) ?_;apply GChV.v0
 ·rfl
 ·intro K' a wy ho hd hb hK kz;have o5:=ho 5 (by decide);simp [slot] at o5;clear hd ho;have hst:=HCP.out wy hb;have HHk:=hst.at mE0;obtain ⟨k0,k1,k2,k3,k4,k5,k6,k7,k8,k9⟩:=HHk.c10;clear HHk;have HHl:=hst.at mE1;obtain ⟨l0,l1⟩:=HHl.c2;clear HHl;have HHm:=hst.at mE2;obtain ⟨m0,m1,m2,m3,m4⟩:=HHm.c5;clear HHm;clear hst;go_simp;try go_bits
  exact kz _ rfl
 apply GChV.v1
 ·rfl
 ·intro K' a wy ho hd hb hK kz;have o6:=ho 6 (by decide);simp [slot] at o6;clear hd ho;have hst:=HCP.out wy hb;have HHk:=hst.at mE0;obtain ⟨k0,k1,k2,k3,k4,k5,k6,k7,k8,k9⟩:=HHk.c10;clear HHk;have HHl:=hst.at mE1;obtain ⟨l0,l1⟩:=HHl.c2;clear HHl;have HHm:=hst.at mE2;obtain ⟨m0,m1,m2,m3,m4⟩:=HHm.c5;clear HHm;clear hst;go_simp;try go_bits
  exact kz _ rfl
 apply GChV.v2
 ·rfl
 ·intro K' a wy ho hd hb hK kz;have o7:=ho 7 (by decide);simp [slot] at o7;clear hd ho;go_simp;try go_bits
  exact kz _ rfl
 apply GChV.v3
 ·rfl
 ·intro K' a wy ho hd hb hK kz;have q2:=hd ⟨2,.data⟩ (by simp) rfl;simp [rAt,IsV,slot] at q2;clear hd ho;have hst:=HCP.out wy hb;have HHk:=hst.at mE0;obtain ⟨k0,k1,k2,k3,k4,k5,k6,k7,k8,k9⟩:=HHk.c10;clear HHk;have HHl:=hst.at mE1;obtain ⟨l0,l1⟩:=HHl.c2;clear HHl;have HHm:=hst.at mE2;obtain ⟨m0,m1,m2,m3,m4⟩:=HHm.c5;clear HHm;clear hst;go_simp;try go_bits
  exact kz _ rfl
 apply GChV.v4
 ·rfl
 ·intro K' a wy ho hd hb hK kz;have o7:=ho 7 (by decide);simp [slot] at o7;clear hd ho;go_simp;try go_bits
  exact kz _ rfl
 apply GChV.v5
 ·rfl
 ·intro K' a wy ho hd hb hK kz;have q4:=hd ⟨4,.data⟩ (by simp) rfl;simp [rAt,IsV,slot] at q4;clear hd ho;have hst:=HCP.out wy hb;have HHk:=hst.at mE0;obtain ⟨k0,k1,k2,k3,k4,k5,k6,k7,k8,k9⟩:=HHk.c10;clear HHk;have HHl:=hst.at mE1;obtain ⟨l0,l1⟩:=HHl.c2;clear HHl;have HHm:=hst.at mE2;obtain ⟨m0,m1,m2,m3,m4⟩:=HHm.c5;clear HHm;clear hst;go_simp;try go_bits
  exact kz _ rfl
 apply GChV.v6
 ·rfl
 ·intro K' a wy ho hd hb hK kz;have o7:=ho 7 (by decide);simp [slot] at o7;clear hd ho;go_simp;try go_bits
  exact kz _ rfl
 apply GChV.v7
 ·rfl
 ·intro K' a wy ho hd hb hK kz;have q6:=hd ⟨6,.data⟩ (by simp) rfl;simp [rAt,IsV,slot] at q6;clear hd ho;have hst:=HCP.out wy hb;have HHk:=hst.at mE0;obtain ⟨k0,k1,k2,k3,k4,k5,k6,k7,k8,k9⟩:=HHk.c10;clear HHk;have HHl:=hst.at mE1;obtain ⟨l0,l1⟩:=HHl.c2;clear HHl;have HHm:=hst.at mE2;obtain ⟨m0,m1,m2,m3,m4⟩:=HHm.c5;clear HHm;clear hst;go_simp;try go_bits
  exact kz _ rfl
 apply GChV.v8
 ·rfl
 ·intro K' a wy ho hd hb hK kz;have o7:=ho 7 (by decide);simp [slot] at o7;clear hd ho;go_simp;try go_bits
  exact kz _ rfl
 apply GChV.v9
 ·rfl
 ·intro K' a wy ho hd hb hK kz;have q8:=hd ⟨8,.data⟩ (by simp) rfl;simp [rAt,IsV,slot] at q8;clear hd ho;have hst:=HCP.out wy hb;have HHk:=hst.at mE0;obtain ⟨k0,k1,k2,k3,k4,k5,k6,k7,k8,k9⟩:=HHk.c10;clear HHk;have HHl:=hst.at mE1;obtain ⟨l0,l1⟩:=HHl.c2;clear HHl;have HHm:=hst.at mE2;obtain ⟨m0,m1,m2,m3,m4⟩:=HHm.c5;clear HHm;clear hst;go_simp;try go_bits
  exact kz _ rfl
 apply GChV.v10
 ·rfl
 ·intro K' a wy ho hd hb hK kz;have o7:=ho 7 (by decide);simp [slot] at o7;clear hd ho;have hst:=HCP.out wy hb;have HHk:=hst.at mE0;obtain ⟨k0,k1,k2,k3,k4,k5,k6,k7,k8,k9⟩:=HHk.c10;clear HHk;have HHl:=hst.at mE1;obtain ⟨l0,l1⟩:=HHl.c2;clear HHl;have HHm:=hst.at mE2;obtain ⟨m0,m1,m2,m3,m4⟩:=HHm.c5;clear HHm;clear hst;go_simp;try go_bits
  exact kz _ rfl
 apply GChV.v11
 ·rfl
 ·intro K' a wy ho hd hb hK kz;have o7:=ho 7 (by decide);simp [slot] at o7;clear hd ho;go_simp;try go_bits
  exact kz _ rfl
 apply GChV.v12
 ·rfl
 ·intro K' a wy ho hd hb hK kz;have q11:=hd ⟨11,.data⟩ (by simp) rfl;simp [rAt,IsV,slot] at q11;clear hd ho;have hst:=HCP.out wy hb;have HHk:=hst.at mE0;obtain ⟨k0,k1,k2,k3,k4,k5,k6,k7,k8,k9⟩:=HHk.c10;clear HHk;have HHl:=hst.at mE1;obtain ⟨l0,l1⟩:=HHl.c2;clear HHl;have HHm:=hst.at mE2;obtain ⟨m0,m1,m2,m3,m4⟩:=HHm.c5;clear HHm;clear hst;go_simp;try go_bits
  exact kz _ rfl
 apply GChV.v13
 ·rfl
 ·intro K' a wy ho hd hb hK kz;have q10:=hd ⟨10,.data⟩ (by simp) rfl;have q12:=hd ⟨12,.data⟩ (by simp) rfl;simp [rAt,IsV,slot] at q10 q12;clear hd ho;go_simp;refine (HPO.out wy).mono ?_;rintro e wz ⟨rfl,hz⟩;exact hK _ _ rfl hz
 apply GChV.v14
 ·rfl
 ·intro K' a wy ho hd hb hK kz;have o7:=ho 7 (by decide);simp [slot] at o7;clear hd ho;have hst:=HCP.out wy hb;have HHk:=hst.at mE0;obtain ⟨k0,k1,k2,k3,k4,k5,k6,k7,k8,k9⟩:=HHk.c10;clear HHk;have HHl:=hst.at mE1;obtain ⟨l0,l1⟩:=HHl.c2;clear HHl;have HHm:=hst.at mE2;obtain ⟨m0,m1,m2,m3,m4⟩:=HHm.c5;clear HHm;clear hst;go_simp;try go_bits
  exact kz _ rfl
 apply GChV.v15
 ·rfl
 ·intro K' a wy ho hd hb hK kz;have o3:=ho 3 (by decide);simp [slot] at o3;clear hd ho;go_simp;try go_bits
  exact kz _ rfl
 apply GChV.v16
 ·rfl
 ·intro K' a wy ho hd hb hK kz;have q14:=hd ⟨14,.data⟩ (by simp) rfl;have q15:=hd ⟨15,.data⟩ (by simp) rfl;simp [rAt,IsV,slot] at q14 q15;clear hd ho;go_simp;refine (HFL.out wy).mono ?_;rintro e wz ⟨rfl,hz⟩;exact hK _ _ rfl hz
 apply GChV.v17
 ·rfl
 ·intro K' a wy ho hd hb hK kz;have q3:=hd ⟨3,.data⟩ (by simp) rfl;have q5:=hd ⟨5,.data⟩ (by simp) rfl;have q7:=hd ⟨7,.data⟩ (by simp) rfl;have q9:=hd ⟨9,.data⟩ (by simp) rfl;have q13:=hd ⟨13,.data⟩ (by simp) rfl;have q16:=hd ⟨16,.data⟩ (by simp) rfl;simp [rAt,IsV,slot] at q3 q5 q7 q9 q13 q16;clear hd ho;go_simp;try go_bits
  exact kz _ rfl
 apply GChV.v18
 ·rfl
 ·intro K' a wy ho hd hb hK kz;have o4:=ho 4 (by decide);simp [slot] at o4;clear hd ho;go_simp;try go_bits
  exact kz _ rfl
 refine GChV.rel (n:=19) (IsBv W0.drew.heap.size nv) (stable_isBv _ _) [_,_,_,_,_,_,_,_,_,_,_,_,_,_,_,_,_,_,_,IsBv W0.drew.heap.size nv] rfl rfl ?_ ?_
 ·intro K' a wy ho hd hb hK;rw [wN rfl];have q0:=hd ⟨0,.data⟩ (by simp) rfl;have q1:=hd ⟨1,.data⟩ (by simp) rfl;have q17:=hd ⟨17,.data⟩ (by simp) rfl;have q18:=hd ⟨18,.data⟩ (by simp) rfl;simp [rAt,IsV,slot] at q0 q1 q17 q18;clear hd ho;go_simp;have hst:=HCP.out wy hb;refine (HGO.out wy hst.b).mono ?_;rintro e wz ⟨⟨a9,b9,c9,d9,rfl,hown⟩,hz⟩;exact hK _ _ ⟨a9,b9,c9,d9,rfl,⟨hown.bd.down hb.size,hown.ss.down hb.size,hown.ne⟩⟩ hz
 intro X wz hR hz;obtain ⟨x0,x1,x2,x3,x4,x5,x6,x7,x8,x9,x10,x11,x12,x13,x14,x15,x16,x17,x18,x19,-⟩:=hR;obtain ⟨a9,b9,c9,d9,e9,own9⟩:=x19;unfold boC at e9;simp only [IsV] at x0 x1 x2 x3 x4 x5 x6 x7 x8 x9 x10 x11 x12 x13 x14 x15 x16 x17 x18;simp only [putsFrom,x0,x1,x2,x3,x4,x5,x6,x7,x8,x9,x10,x11,x12,x13,x14,x15,x16,x17,x18,e9];clear x0 x1 x2 x3 x4 x5 x6 x7 x8 x9 x10 x11 x12 x13 x14 x15 x16 x17 x18;have V7:Hid (Bxs w [(w.heap.size,(PlV pa pc p)),(w.heap.size+1,(BbV ba ca bo cb x)),(w.heap.size+1+1,(FlR proto src dst sp dp)),(w.heap.size+1+1+1,[.slice none 0 0,.slice none 0 0,iV 0,.string ⟨#[]⟩,iV 0,.string ⟨#[]⟩,iV 0,iV 0])] wz):=HCP.out wz hz;clear hz HCP;have HHz:=V7.out.at mE3;obtain ⟨z0,z1,z2,z3,z4,z5,z6,z7⟩:=HHz.c8;obtain ⟨zf0,zf1,zf2,zf3,zf4,zf5,zf6,zf7⟩:=HHz.f8;have HRR:Hid (HoldsL ((sW (sW (sW (sW (sW (sW (sW wz (w.heap.size+1+1+1) 0 (.slice a9 nv.bib.binds.length c9)) (w.heap.size+1+1+1) 1 (.slice b9 nv.bib.sess.length d9)) (w.heap.size+1+1+1) 2 (iV nv.bind.proto)) (w.heap.size+1+1+1) 3 (.string nv.bind.inn)) (w.heap.size+1+1+1) 4 (iV nv.bind.inPort)) (w.heap.size+1+1+1) 5 (.string nv.bind.out)) (w.heap.size+1+1+1) 6 (iV nv.bind.outPort)).setCell ⟨w.heap.size+1+1+1,7,none⟩ (iV nv.code)) (w.heap.size+1+1+1) [.slice a9 nv.bib.binds.length c9,.slice b9 nv.bib.sess.length d9,iV nv.bind.proto,.string nv.bind.inn,iV nv.bind.inPort,.string nv.bind.out,iV nv.bind.outPort,iV nv.code]):=((((((((HHz.set 0 (.slice a9 nv.bib.binds.length c9)).set 1 (.slice b9 nv.bib.sess.length d9)).set 2 (iV nv.bind.proto)).set 3 (.string nv.bind.inn)).set 4 (iV nv.bind.inPort)).set 5 (.string nv.bind.out)).set 6 (iV nv.bind.outPort)).set 7 (iV nv.code));have RB:Hid _:=((((((((V7.out.b.setCell (p:=⟨w.heap.size+1+1+1,0,none⟩) hRw (.slice a9 nv.bib.binds.length c9)).setCell (p:=⟨w.heap.size+1+1+1,1,none⟩) hRw (.slice b9 nv.bib.sess.length d9)).setCell (p:=⟨w.heap.size+1+1+1,2,none⟩) hRw (iV nv.bind.proto)).setCell (p:=⟨w.heap.size+1+1+1,3,none⟩) hRw (.string nv.bind.inn)).setCell (p:=⟨w.heap.size+1+1+1,4,none⟩) hRw (iV nv.bind.inPort)).setCell (p:=⟨w.heap.size+1+1+1,5,none⟩) hRw (.string nv.bind.out)).setCell (p:=⟨w.heap.size+1+1+1,6,none⟩) hRw (iV nv.bind.outPort)).setCell (p:=⟨w.heap.size+1+1+1,7,none⟩) hRw (iV nv.code));clear HHz;have HOW:Hid (BbOwn w.heap.size ((sW (sW (sW (sW (sW (sW (sW wz (w.heap.size+1+1+1) 0 (.slice a9 nv.bib.binds.length c9)) (w.heap.size+1+1+1) 1 (.slice b9 nv.bib.sess.length d9)) (w.heap.size+1+1+1) 2 (iV nv.bind.proto)) (w.heap.size+1+1+1) 3 (.string nv.bind.inn)) (w.heap.size+1+1+1) 4 (iV nv.bind.inPort)) (w.heap.size+1+1+1) 5 (.string nv.bind.out)) (w.heap.size+1+1+1) 6 (iV nv.bind.outPort)).setCell ⟨w.heap.size+1+1+1,7,none⟩ (iV nv.code)) a9 b9 nv.bib):=⟨(own9.bd.grown (grown_set (grown_set (grown_set (grown_set (grown_set (grown_set (grown_set (grown_set (World.grownBy.refl _ _) _) _) _) _) _) _) _) _) hRl).down hwl,(own9.ss.grown (grown_set (grown_set (grown_set (grown_set (grown_set (grown_set (grown_set (grown_set (World.grownBy.refl _ _) _) _) _) _) _) _) _) _) hRl).down hwl,own9.ne⟩
 clear own9 V7 HGO;intro K10 hK10;go_simp;refine hK10 _ _ ?_;simp only [wpSeq];go_wp2_with fail
 exact bodyPost_ret (results_mid Tryz.results70 _ _ _ _ _ rfl HRR.out Tryz.underlying96 rfl (show (Tryz.prog.info? 96).map (·.size)=some 8 by kernel_rfl)) rfl (And.intro ⟨a9,b9,c9,d9,rfl,HOW.out⟩ RB.out)
def NoRet (base:Nat) (o:No) (e:Ending) (w':World):Prop:=∃ a b ca cb,e=.returned (noC a b ca cb o)∧BbOwn base w' a b o.bib
theorem noRet_ill {base:Nat} {w:World} (c:Int):NoRet base (noE c) (.returned (noC none none 0 0 (noE c))) w:=⟨none,none,0,0,rfl,.inl rfl,.inl rfl,fun g h e1=>by simp at e1⟩
theorem no_info:(Tryz.prog.info? 44).map (·.size)=some 25:=by kernel_rfl
theorem sp9Ill_any (c:Int) (w:World) :
  Cb 29 #[iV c] w (noC none none 0 0 (noE c)):=by
 have H0:Hid (HoldsL (w.alloc (.cells #[.slice none 0 0,.slice none 0 0,iV 0,iV 0,.bool false,.bool false,iV 0,iV 0,iV 0,.string ⟨#[]⟩,.string ⟨#[]⟩,.string ⟨#[]⟩,.string ⟨#[]⟩,iV 0,iV 0,iV 0,iV 0,.string ⟨#[]⟩,.string ⟨#[]⟩,.bool false,.bool false,iV 0,iV 0,.string ⟨#[]⟩,iV 0] 44)) w.heap.size (noL none none 0 0 (noE 0))):=HoldsL.new w [.slice none 0 0,.slice none 0 0,iV 0,iV 0,.bool false,.bool false,iV 0,iV 0,iV 0,.string ⟨#[]⟩,.string ⟨#[]⟩,.string ⟨#[]⟩,.string ⟨#[]⟩,iV 0,iV 0,iV 0,iV 0,.string ⟨#[]⟩,.string ⟨#[]⟩,.bool false,.bool false,iV 0,iV 0,.string ⟨#[]⟩,iV 0] 44;have B0:Hid (Below w.heap.size w (w.alloc (.cells #[.slice none 0 0,.slice none 0 0,iV 0,iV 0,.bool false,.bool false,iV 0,iV 0,iV 0,.string ⟨#[]⟩,.string ⟨#[]⟩,.string ⟨#[]⟩,.string ⟨#[]⟩,iV 0,iV 0,iV 0,iV 0,.string ⟨#[]⟩,.string ⟨#[]⟩,.bool false,.bool false,iV 0,iV 0,.string ⟨#[]⟩,iV 0] 44))):=(Below.refl _ _).alloc (Nat.le_refl _) _;go_enter Tryz.func29,Tryz.ntmps29
 go_upto_region 1 with fail
 generalize (w.alloc (.cells #[.slice none 0 0,.slice none 0 0,iV 0,iV 0,.bool false,.bool false,iV 0,iV 0,iV 0,.string ⟨#[]⟩,.string ⟨#[]⟩,.string ⟨#[]⟩,.string ⟨#[]⟩,iV 0,iV 0,iV 0,iV 0,.string ⟨#[]⟩,.string ⟨#[]⟩,.bool false,.bool false,iV 0,iV 0,.string ⟨#[]⟩,iV 0] 44))=W0 at *;have HTH:Hid (W0.there w.heap.size 0 (noL none none 0 0 (noE c)).toArray.size):=noL_there H0.out _ _ _ _ _;have HRR:Hid (HoldsL (W0.setCells w.heap.size 0 (noL none none 0 0 (noE c)).toArray.toList) w.heap.size (noL none none 0 0 (noE c))):=H0.out.mid rfl;have RB:Hid (Below w.heap.size w (W0.setCells w.heap.size 0 (noL none none 0 0 (noE c)).toArray.toList)):=Below.mid B0.out (Nat.le_refl _) _;clear H0 B0;go_wp2_with (refine wpList_store_mid (by rfl) 44 (.tmp 2) (.tmp 4) (by rfl) w.heap.size 0 (noL none none 0 0 (noE c)).toArray (by rfl) (by rfl) HTH.out no_info (noL_one _ _ _ _ _) ?_)
 exact bodyPost_ret (results_mid Tryz.results29 _ _ w.heap.size (noL none none 0 0 (noE c)) _ rfl HRR.out Tryz.underlying44 rfl no_info) rfl (And.intro rfl RB.out)
theorem sp9NatGo_any (pa:Option Addr) (pc:Nat) (p:Pl) (ba bo:Option Addr) (ca cb:Nat) (x:Bb) (q:P4) (now:Int) (w:World) (hbk:bibOk p x=true) (hq:v4Ok q=true) (hnow:isTime now=true) (hl1:x.binds.length≤1048576) (hl2:x.sess.length≤1048576) (hp:SlIs strL1 1 w pa p.addrs) (hx:BbIs w ba bo x) :
  Calls Tryz.prog 30 #[plC pa pc p,bbC ba bo ca cb x,p4C q,iV now] w fun e w'=>NoRet w.heap.size (natGoIn p x q now) e w'∧Below w.heap.size w w':=by
 obtain ⟨hA,hB⟩ : v4A q=true∧v4B q=true:=by unfold v4Ok at hq; simp only [Bool.and_eq_true] at hq; exact hq.1
 obtain ⟨-,-,hpr,-,-,hs,hd⟩:=v4A_parts hA;obtain ⟨-,-,hdt,-,-⟩:=v4B_parts hB;have hpo:poolOk p=true:=(bibR_iff.1 hbk).pool;have HOF:Hid (∀ W,Cb 53 #[.string q.src,.string q.dst,iV q.proto,.string q.data] W (.tuple #[fwC (ofFl q.src q.dst q.proto q.data),iV (ofCode q.src.size q.proto q.data)])):=fun W=>spOf_any _ _ _ _ W (by omega) (by omega)
 have HIL:Hid (∀ c W,Cb 29 #[iV c] W (noC none none 0 0 (noE c))):=fun c W=>sp9Ill_any c W
 have HGO:Hid (ofCode q.src.size q.proto q.data=0→∀ W,Below w.heap.size w W→Calls Tryz.prog 54 #[plC pa pc p,bbC ba bo ca cb x,fwC (ofFl q.src q.dst q.proto q.data),.string q.dst,.string q.data,iV now] W fun e w'=>BoRet W.heap.size (goV p x (goT (ofFl q.src q.dst q.proto q.data) q.dst q.data) now) e w'∧Below W.heap.size W w'):=fun h W hW=>by
  obtain ⟨z1,z2,z3,z4,z5,z6⟩:=ofFl_zero (d:=q.dst) h;exact sp9Go_any pa pc p ba bo ca cb x _ q.dst q.data now W hpo hnow (by rw [z2]; omega) z4.1 z4.2 (by omega) (by rw [z1]; exact (ofCode_size h).2) hl1 hl2 (hp.below hW) (hx.below hW)
 have HBE:Hid (ofCode q.src.size q.proto q.data=0→(goV p x (goT (ofFl q.src q.dst q.proto q.data) q.dst q.data) now).code=0→_):=fun h h2=>bind_ends hbk hnow (goT_ok hs hd h) h2
 have HFM:Hid (ofCode q.src.size q.proto q.data=0→(goV p x (goT (ofFl q.src q.dst q.proto q.data) q.dst q.data) now).code=0→∀ W,Cb 56 #[fwC (ofFl q.src q.dst q.proto q.data),.string (goV p x (goT (ofFl q.src q.dst q.proto q.data) q.dst q.data) now).bind.out,iV (goV p x (goT (ofFl q.src q.dst q.proto q.data) q.dst q.data) now).bind.outPort,.string q.dst] W (fwC (fromF (ofFl q.src q.dst q.proto q.data) (goV p x (goT (ofFl q.src q.dst q.proto q.data) q.dst q.data) now).bind.out (goV p x (goT (ofFl q.src q.dst q.proto q.data) q.dst q.data) now).bind.outPort q.dst))):=fun h h2 W=>sp9From_any _ _ _ _ W (by have:=(HBE.out h h2).1; omega)
 have HST:Hid (ofCode q.src.size q.proto q.data=0→(goV p x (goT (ofFl q.src q.dst q.proto q.data) q.dst q.data) now).code=0→∀ W,Cb 55 #[fwC (ofFl q.src q.dst q.proto q.data),fwC (fromF (ofFl q.src q.dst q.proto q.data) (goV p x (goT (ofFl q.src q.dst q.proto q.data) q.dst q.data) now).bind.out (goV p x (goT (ofFl q.src q.dst q.proto q.data) q.dst q.data) now).bind.outPort q.dst),.string q.data] W (dtCO (setD (ofFl q.src q.dst q.proto q.data) (fromF (ofFl q.src q.dst q.proto q.data) (goV p x (goT (ofFl q.src q.dst q.proto q.data) q.dst q.data) now).bind.out (goV p x (goT (ofFl q.src q.dst q.proto q.data) q.dst q.data) now).bind.outPort q.dst) q.data) 0)):=fun h h2 W=>by
  obtain ⟨z1,z2,z3,z4,z5,z6⟩:=ofFl_zero (d:=q.dst) h;obtain ⟨b1,b2,b3,b4,b5⟩:=HBE.out h h2;obtain ⟨k1,k2,k3,k4⟩:=kind_right (f:=ofFl q.src q.dst q.proto q.data) (g:=⟨(ofFl q.src q.dst q.proto q.data).proto,(goV p x (goT (ofFl q.src q.dst q.proto q.data) q.dst q.data) now).bind.out,q.dst,(goV p x (goT (ofFl q.src q.dst q.proto q.data) q.dst q.data) now).bind.outPort,(ofFl q.src q.dst q.proto q.data).dp⟩) (flowOk_of h (pair_four hs hd)) (by rw [z2]; exact hs) b1 hd rfl b2 z5;obtain ⟨m1,m2,m3⟩:=flowOk_parts k1;have o:=ofCode_size h;refine (spSet_any _ (fromF (ofFl q.src q.dst q.proto q.data) (goV p x (goT (ofFl q.src q.dst q.proto q.data) q.dst q.data) now).bind.out (goV p x (goT (ofFl q.src q.dst q.proto q.data) q.dst q.data) now).bind.outPort q.dst) q.data W (by omega) o.1 (by rw [z1]; exact o.2) ⟨by rw [z2]; omega,by rw [z3]; omega⟩ m1 (by rw [z1]; exact hpr) m2 m3).mono ?_;rintro e w' ⟨rfl,hb⟩;refine ⟨?_,hb⟩;unfold setD;have k5:(fromF (ofFl q.src q.dst q.proto q.data) (goV p x (goT (ofFl q.src q.dst q.proto q.data) q.dst q.data) now).bind.out (goV p x (goT (ofFl q.src q.dst q.proto q.data) q.dst q.data) now).bind.outPort q.dst).src.size=4:=by show (kindF _ _).src.size=4; rw [k3]; exact b1
  have k6:¬ (fromF (ofFl q.src q.dst q.proto q.data) (goV p x (goT (ofFl q.src q.dst q.proto q.data) q.dst q.data) now).bind.out (goV p x (goT (ofFl q.src q.dst q.proto q.data) q.dst q.data) now).bind.outPort q.dst).src.size=16:=by omega
  simp only [if_neg k6];by_cases hbu:bareUdp (ofFl q.src q.dst q.proto q.data) q.data=true
  ·simp only [if_pos hbu]
  ·simp only [if_neg hbu]
 have HV:Hid (natGoIn p x q now=if ofCode q.src.size q.proto q.data≠0 then noE (ofCode q.src.size q.proto q.data) else if (goV p x (goT (ofFl q.src q.dst q.proto q.data) q.dst q.data) now).code≠0 then noE (goV p x (goT (ofFl q.src q.dst q.proto q.data) q.dst q.data) now).code else ⟨(goV p x (goT (ofFl q.src q.dst q.proto q.data) q.dst q.data) now).bib,{ q with src:=(goV p x (goT (ofFl q.src q.dst q.proto q.data) q.dst q.data) now).bind.out,data:=setD (ofFl q.src q.dst q.proto q.data) (fromF (ofFl q.src q.dst q.proto q.data) (goV p x (goT (ofFl q.src q.dst q.proto q.data) q.dst q.data) now).bind.out (goV p x (goT (ofFl q.src q.dst q.proto q.data) q.dst q.data) now).bind.outPort q.dst) q.data },p6Zero,0⟩):=rfl;clear HBE;generalize natGoIn p x q now=ans at *;generalize setD (ofFl q.src q.dst q.proto q.data) (fromF (ofFl q.src q.dst q.proto q.data) (goV p x (goT (ofFl q.src q.dst q.proto q.data) q.dst q.data) now).bind.out (goV p x (goT (ofFl q.src q.dst q.proto q.data) q.dst q.data) now).bind.outPort q.dst) q.data=sd at *;generalize fromF (ofFl q.src q.dst q.proto q.data) (goV p x (goT (ofFl q.src q.dst q.proto q.data) q.dst q.data) now).bind.out (goV p x (goT (ofFl q.src q.dst q.proto q.data) q.dst q.data) now).bind.outPort q.dst=g at *;generalize goV p x (goT (ofFl q.src q.dst q.proto q.data) q.dst q.data) now=nv at *;generalize ofFl q.src q.dst q.proto q.data=fl at *;generalize ofCode q.src.size q.proto q.data=cd at *;obtain ⟨tos,id,whole,more,off,ttl,proto,src,dst,opts,data⟩:=q;clear hp hx hpo hnow hbk hq hA hB;unfold plC bbC p4C at *;unfold fwC dtCO at *;dsimp only at *;have HS0:=bx4 w (PlV pa pc p) 48 (BbV ba ca bo cb x) 39 (P4R tos id whole more off ttl proto src dst opts data) 40 [.slice none 0 0,.slice none 0 0,iV 0,iV 0,.bool false,.bool false,iV 0,iV 0,iV 0,.string ⟨#[]⟩,.string ⟨#[]⟩,.string ⟨#[]⟩,.string ⟨#[]⟩,iV 0,iV 0,iV 0,iV 0,.string ⟨#[]⟩,.string ⟨#[]⟩,.bool false,.bool false,iV 0,iV 0,.string ⟨#[]⟩,iV 0] 44 (by simp) (by simp) (by simp) (by simp)
 skip;have hRw:w.heap.size≤w.heap.size+1+1+1:=by omega
 go_enter Tryz.func30,Tryz.ntmps30
 go_upto_region 1 with fail
 generalize ((aW (aW (aW w (PlV pa pc p) 48) (BbV ba ca bo cb x) 39) (P4R tos id whole more off ttl proto src dst opts data) 40).alloc (.cells #[.slice none 0 0,.slice none 0 0,iV 0,iV 0,.bool false,.bool false,iV 0,iV 0,iV 0,.string ⟨#[]⟩,.string ⟨#[]⟩,.string ⟨#[]⟩,.string ⟨#[]⟩,iV 0,iV 0,iV 0,iV 0,.string ⟨#[]⟩,.string ⟨#[]⟩,.bool false,.bool false,iV 0,iV 0,.string ⟨#[]⟩,iV 0] 44))=W0 at *;have HHk:=HS0.out.at mE2;obtain ⟨k0,k1,k2,k3,k4,k5,k6,k7,k8,k9,k10⟩:=HHk.c11;clear HHk;go_wp2_with fail
 refine (HOF.out _).mono ?_;rintro e W1 ⟨rfl,r1⟩;have S2:Hid (Bxs w ((W1.heap.size,(FlV fl))::[(w.heap.size,(PlV pa pc p)),(w.heap.size+1,(BbV ba ca bo cb x)),(w.heap.size+1+1,(P4R tos id whole more off ttl proto src dst opts data)),(w.heap.size+1+1+1,[.slice none 0 0,.slice none 0 0,iV 0,iV 0,.bool false,.bool false,iV 0,iV 0,iV 0,.string ⟨#[]⟩,.string ⟨#[]⟩,.string ⟨#[]⟩,.string ⟨#[]⟩,iV 0,iV 0,iV 0,iV 0,.string ⟨#[]⟩,.string ⟨#[]⟩,.bool false,.bool false,iV 0,iV 0,.string ⟨#[]⟩,iV 0])]) (W1.alloc (.cells (FlV fl).toArray 91))):=(HS0.out.kept r1).push (FlV fl) (by simp) _;clear r1 HS0 HOF k0 k1 k2 k3 k4 k5 k6 k7 k8 k9 k10;go_upto_region 2 with fail
 generalize (W1.alloc (.cells (FlV fl).toArray 91))=W2 at *;generalize W1.heap.size=Fb at *;by_cases hc:cd=0
 case neg =>
  have d0:(cd != 0)=true:=by simp [hc]
  have HX:Hid (ans=noE cd):=by unfold Hid; rw [HV.out,if_pos hc]
  go_wp2_with fail
  refine (HIL.out cd _).mono ?_;rintro e W3 ⟨rfl,r3⟩;have S3:Hid _:=S2.out.kept r3;clear r3;have HTH:Hid (W3.there (w.heap.size+1+1+1) 0 (noL none none 0 0 (noE cd)).toArray.size):=noL_there (show HoldsL W3 (w.heap.size+1+1+1) (noL none none 0 0 (noE 0)) from S3.out.k _ mE4) _ _ _ _ _;have HRR:Hid (HoldsL (W3.setCells (w.heap.size+1+1+1) 0 (noL none none 0 0 (noE cd)).toArray.toList) (w.heap.size+1+1+1) (noL none none 0 0 (noE cd))):=(show HoldsL W3 (w.heap.size+1+1+1) (noL none none 0 0 (noE 0)) from S3.out.k _ mE4).mid rfl;have RB:Hid (Below w.heap.size w (W3.setCells (w.heap.size+1+1+1) 0 (noL none none 0 0 (noE cd)).toArray.toList)):=Below.mid S3.out.b hRw _;unfold noC;go_wp2_with (refine wpList_store_mid (by rfl) 44 (.tmp 8) (.tmp 28) (by rfl) (w.heap.size+1+1+1) 0 (noL none none 0 0 (noE cd)).toArray (by rfl) (by rfl) HTH.out no_info (noL_one _ _ _ _ _) ?_)
  exact bodyPost_ret (results_mid Tryz.results30 _ _ (w.heap.size+1+1+1) (noL none none 0 0 (noE cd)) _ rfl HRR.out Tryz.underlying44 rfl no_info) rfl (And.intro (by rw [HX.out]; exact noRet_ill _) RB.out)
 have d0:(cd != 0)=false:=by simp [hc]
 rw [if_neg (by simp [hc])] at HV;replace HGO:Hid _:=HGO.out hc;replace HFM:Hid _:=HFM.out hc;replace HST:Hid _:=HST.out hc;clear hc;go_upto_region 4 with fail
 clear d0;have HHk:=S2.out.at mE1;obtain ⟨k0,k1,k2,k3,k4,k5,k6,k7,k8,k9⟩:=HHk.c10;clear HHk;have HHl:=S2.out.at mE2;obtain ⟨l0,l1⟩:=HHl.c2;clear HHl;have HHm:=S2.out.at mE0;obtain ⟨m0,m1,m2,m3,m4⟩:=HHm.c5;clear HHm;have HHn:=S2.out.at mE3;obtain ⟨n0,n1,n2,n3,n4,n5,n6,n7,n8,n9,n10⟩:=HHn.c11;clear HHn;have hR2:w.heap.size+1+1+1 < W2.heap.size:=(S2.out.k _ mE4).lt (by simp);have hw2:w.heap.size≤W2.heap.size:=S2.out.b.size;go_wp2_with fail
 refine (HGO.out W2 S2.out.b).mono ?_;rintro e W3 ⟨⟨a9,b9,c9,d9,rfl,hown⟩,r3⟩;unfold boC;have S4:Hid (Bxs w ((W3.heap.size,[.slice a9 nv.bib.binds.length c9,.slice b9 nv.bib.sess.length d9,iV nv.bind.proto,.string nv.bind.inn,iV nv.bind.inPort,.string nv.bind.out,iV nv.bind.outPort,iV nv.code])::[(Fb,(FlV fl)),(w.heap.size,(PlV pa pc p)),(w.heap.size+1,(BbV ba ca bo cb x)),(w.heap.size+1+1,(P4R tos id whole more off ttl proto src dst opts data)),(w.heap.size+1+1+1,[.slice none 0 0,.slice none 0 0,iV 0,iV 0,.bool false,.bool false,iV 0,iV 0,iV 0,.string ⟨#[]⟩,.string ⟨#[]⟩,.string ⟨#[]⟩,.string ⟨#[]⟩,iV 0,iV 0,iV 0,iV 0,.string ⟨#[]⟩,.string ⟨#[]⟩,.bool false,.bool false,iV 0,iV 0,.string ⟨#[]⟩,iV 0])]) (W3.alloc (.cells #[.slice a9 nv.bib.binds.length c9,.slice b9 nv.bib.sess.length d9,iV nv.bind.proto,.string nv.bind.inn,iV nv.bind.inPort,.string nv.bind.out,iV nv.bind.outPort,iV nv.code] 96))):=(S2.out.kept r3).push [.slice a9 nv.bib.binds.length c9,.slice b9 nv.bib.sess.length d9,iV nv.bind.proto,.string nv.bind.inn,iV nv.bind.inPort,.string nv.bind.out,iV nv.bind.outPort,iV nv.code] (by simp) _;have O4:Hid (BbOwn W2.heap.size (W3.alloc (.cells #[.slice a9 nv.bib.binds.length c9,.slice b9 nv.bib.sess.length d9,iV nv.bind.proto,.string nv.bind.inn,iV nv.bind.inPort,.string nv.bind.out,iV nv.bind.outPort,iV nv.code] 96)) a9 b9 nv.bib):=hown.kept ((Below.refl _ _).alloc (Nat.le_refl _) _);have hx4:W2.heap.size≤W3.heap.size:=r3.size;clear r3 hown S2 HGO k0 k1 k2 k3 k4 k5 k6 k7 k8 k9 l0 l1 m0 m1 m2 m3 m4 n0 n1 n2 n3 n4 n5 n6 n7 n8 n9 n10;go_upto_region 5 with fail
 generalize (W3.alloc (.cells #[.slice a9 nv.bib.binds.length c9,.slice b9 nv.bib.sess.length d9,iV nv.bind.proto,.string nv.bind.inn,iV nv.bind.inPort,.string nv.bind.out,iV nv.bind.outPort,iV nv.code] 96))=W4 at *;generalize W3.heap.size=Xb at *;have HHk:=S4.out.at mE0;obtain ⟨k0,k1,k2,k3,k4,k5,k6,k7⟩:=HHk.c8;clear HHk;by_cases hn:nv.code=0
 case neg =>
  have d0:(nv.code != 0)=true:=by simp [hn]
  have HX:Hid (ans=noE nv.code):=by unfold Hid; rw [HV.out,if_pos hn]
  go_wp2_with fail
  refine (HIL.out nv.code _).mono ?_;rintro e W5 ⟨rfl,r5⟩;have S5:Hid _:=S4.out.kept r5;clear r5;have HTH:Hid (W5.there (w.heap.size+1+1+1) 0 (noL none none 0 0 (noE nv.code)).toArray.size):=noL_there (show HoldsL W5 (w.heap.size+1+1+1) (noL none none 0 0 (noE 0)) from S5.out.k _ mE5) _ _ _ _ _;have HRR:Hid (HoldsL (W5.setCells (w.heap.size+1+1+1) 0 (noL none none 0 0 (noE nv.code)).toArray.toList) (w.heap.size+1+1+1) (noL none none 0 0 (noE nv.code))):=(show HoldsL W5 (w.heap.size+1+1+1) (noL none none 0 0 (noE 0)) from S5.out.k _ mE5).mid rfl;have RB:Hid (Below w.heap.size w (W5.setCells (w.heap.size+1+1+1) 0 (noL none none 0 0 (noE nv.code)).toArray.toList)):=Below.mid S5.out.b hRw _;unfold noC;go_wp2_with (refine wpList_store_mid (by rfl) 44 (.tmp 8) (.tmp 43) (by rfl) (w.heap.size+1+1+1) 0 (noL none none 0 0 (noE nv.code)).toArray (by rfl) (by rfl) HTH.out no_info (noL_one _ _ _ _ _) ?_)
  exact bodyPost_ret (results_mid Tryz.results30 _ _ (w.heap.size+1+1+1) (noL none none 0 0 (noE nv.code)) _ rfl HRR.out Tryz.underlying44 rfl no_info) rfl (And.intro (by rw [HX.out]; exact noRet_ill _) RB.out)
 have d0:(nv.code != 0)=false:=by simp [hn]
 rw [if_neg (by simp [hn])] at HV;replace HFM:Hid _:=HFM.out hn;replace HST:Hid _:=HST.out hn;clear hn HIL;go_upto_region 7 with fail
 clear d0 k0 k1 k2 k3 k4 k5 k6 k7;go_cut [12] (fun v wx=>∃ g8,v=.pointer (some ⟨g8,0,none⟩)∧HoldsL wx g8 [.string sd,iV 0]∧Bxs w [(Xb,[.slice a9 nv.bib.binds.length c9,.slice b9 nv.bib.sess.length d9,iV nv.bind.proto,.string nv.bind.inn,iV nv.bind.inPort,.string nv.bind.out,iV nv.bind.outPort,iV nv.code]),(Fb,(FlV fl)),(w.heap.size,(PlV pa pc p)),(w.heap.size+1,(BbV ba ca bo cb x)),(w.heap.size+1+1,(P4R tos id whole more off ttl proto src dst opts data)),(w.heap.size+1+1+1,[.slice none 0 0,.slice none 0 0,iV 0,iV 0,.bool false,.bool false,iV 0,iV 0,iV 0,.string ⟨#[]⟩,.string ⟨#[]⟩,.string ⟨#[]⟩,.string ⟨#[]⟩,iV 0,iV 0,iV 0,iV 0,.string ⟨#[]⟩,.string ⟨#[]⟩,.bool false,.bool false,iV 0,iV 0,.string ⟨#[]⟩,iV 0])] wx∧BbOwn W2.heap.size wx a9 b9 nv.bib)
 case first =>
  rename_i J K2 hJ hK2;have HCP:Hid (∀ wy,Below W4.drew.heap.size W4.drew wy→_):=fun wy hy=>S4.out.kept ((Below.refl _ _).drew.trans hy)
  have HOP:Hid (∀ wy,Below W4.drew.heap.size W4.drew wy→BbOwn W2.heap.size wy a9 b9 nv.bib):=fun wy hy=>O4.out.kept ((Below.refl _ _).drew.trans hy)
  have HLT:Hid (∀ e∈([(Xb,[.slice a9 nv.bib.binds.length c9,.slice b9 nv.bib.sess.length d9,iV nv.bind.proto,.string nv.bind.inn,iV nv.bind.inPort,.string nv.bind.out,iV nv.bind.outPort,iV nv.code]),(Fb,(FlV fl)),(w.heap.size,(PlV pa pc p)),(w.heap.size+1,(BbV ba ca bo cb x)),(w.heap.size+1+1,(P4R tos id whole more off ttl proto src dst opts data)),(w.heap.size+1+1+1,[.slice none 0 0,.slice none 0 0,iV 0,iV 0,.bool false,.bool false,iV 0,iV 0,iV 0,.string ⟨#[]⟩,.string ⟨#[]⟩,.string ⟨#[]⟩,.string ⟨#[]⟩,iV 0,iV 0,iV 0,iV 0,.string ⟨#[]⟩,.string ⟨#[]⟩,.bool false,.bool false,iV 0,iV 0,.string ⟨#[]⟩,iV 0])]:List (Nat × List Value)),e.1 < W4.drew.heap.size):=fun e he=>(S4.out.lts e he).1
  have hww:w.heap.size≤W4.drew.heap.size:=S4.out.b.size;clear S4 O4 HV;refine wp_region_growV [44,45,46,47,48,49,50,51,52,53,54,55,56,57,12] (by kernel_rfl) (by kernel_rfl) ?_;apply GChV.v0
  ·rfl
  ·intro K' a wy ho hd hb hK kz;have o9:=ho 9 (by decide);simp [slot] at o9;clear hd ho;have hst:=HCP.out wy hb;have HHk:=hst.at mE1;obtain ⟨k0,k1,k2,k3,k4⟩:=HHk.c5;clear HHk;have HHl:=hst.at mE0;obtain ⟨l0,l1,l2,l3,l4,l5,l6,l7⟩:=HHl.c8;clear HHl;have HHm:=hst.at mE4;obtain ⟨-,-,-,-,-,-,-,-,m8,-,m10⟩:=HHm.c11;clear HHm;clear hst;go_simp;try go_bits
   exact kz _ rfl
  apply GChV.v1
  ·rfl
  ·intro K' a wy ho hd hb hK kz;have o9:=ho 9 (by decide);simp [slot] at o9;clear hd ho;have hst:=HCP.out wy hb;have HHk:=hst.at mE1;obtain ⟨k0,k1,k2,k3,k4⟩:=HHk.c5;clear HHk;have HHl:=hst.at mE0;obtain ⟨l0,l1,l2,l3,l4,l5,l6,l7⟩:=HHl.c8;clear HHl;have HHm:=hst.at mE4;obtain ⟨-,-,-,-,-,-,-,-,m8,-,m10⟩:=HHm.c11;clear HHm;clear hst;go_simp;try go_bits
   exact kz _ rfl
  apply GChV.v2
  ·rfl
  ·intro K' a wy ho hd hb hK kz;have o11:=ho 11 (by decide);simp [slot] at o11;clear hd ho;go_simp;try go_bits
   exact kz _ rfl
  apply GChV.v3
  ·rfl
  ·intro K' a wy ho hd hb hK kz;have q2:=hd ⟨2,.data⟩ (by simp) rfl;simp [rAt,IsV,slot] at q2;clear hd ho;go_simp;try go_bits
   exact kz _ rfl
  apply GChV.v4
  ·rfl
  ·intro K' a wy ho hd hb hK kz;have q3:=hd ⟨3,.data⟩ (by simp) rfl;simp [rAt,IsV,slot] at q3;clear hd ho;have hst:=HCP.out wy hb;have HHk:=hst.at mE1;obtain ⟨k0,k1,k2,k3,k4⟩:=HHk.c5;clear HHk;have HHl:=hst.at mE0;obtain ⟨l0,l1,l2,l3,l4,l5,l6,l7⟩:=HHl.c8;clear HHl;have HHm:=hst.at mE4;obtain ⟨-,-,-,-,-,-,-,-,m8,-,m10⟩:=HHm.c11;clear HHm;clear hst;go_simp;try go_bits
   exact kz _ rfl
  apply GChV.v5
  ·rfl
  ·intro K' a wy ho hd hb hK kz;have o11:=ho 11 (by decide);simp [slot] at o11;clear hd ho;go_simp;try go_bits
   exact kz _ rfl
  apply GChV.v6
  ·rfl
  ·intro K' a wy ho hd hb hK kz;have q5:=hd ⟨5,.data⟩ (by simp) rfl;simp [rAt,IsV,slot] at q5;clear hd ho;go_simp;try go_bits
   exact kz _ rfl
  apply GChV.v7
  ·rfl
  ·intro K' a wy ho hd hb hK kz;have q6:=hd ⟨6,.data⟩ (by simp) rfl;simp [rAt,IsV,slot] at q6;clear hd ho;have hst:=HCP.out wy hb;have HHk:=hst.at mE1;obtain ⟨k0,k1,k2,k3,k4⟩:=HHk.c5;clear HHk;have HHl:=hst.at mE0;obtain ⟨l0,l1,l2,l3,l4,l5,l6,l7⟩:=HHl.c8;clear HHl;have HHm:=hst.at mE4;obtain ⟨-,-,-,-,-,-,-,-,m8,-,m10⟩:=HHm.c11;clear HHm;clear hst;go_simp;try go_bits
   exact kz _ rfl
  apply GChV.v8
  ·rfl
  ·intro K' a wy ho hd hb hK kz;have o6:=ho 6 (by decide);simp [slot] at o6;clear hd ho;go_simp;try go_bits
   exact kz _ rfl
  apply GChV.v9
  ·rfl
  ·intro K' a wy ho hd hb hK kz;have q8:=hd ⟨8,.data⟩ (by simp) rfl;simp [rAt,IsV,slot] at q8;clear hd ho;have hst:=HCP.out wy hb;have HHk:=hst.at mE1;obtain ⟨k0,k1,k2,k3,k4⟩:=HHk.c5;clear HHk;have HHl:=hst.at mE0;obtain ⟨l0,l1,l2,l3,l4,l5,l6,l7⟩:=HHl.c8;clear HHl;have HHm:=hst.at mE4;obtain ⟨-,-,-,-,-,-,-,-,m8,-,m10⟩:=HHm.c11;clear HHm;clear hst;go_simp;try go_bits
   exact kz _ rfl
  apply GChV.v10
  ·rfl
  ·intro K' a wy ho hd hb hK kz;have q1:=hd ⟨1,.data⟩ (by simp) rfl;have q4:=hd ⟨4,.data⟩ (by simp) rfl;have q7:=hd ⟨7,.data⟩ (by simp) rfl;have q9:=hd ⟨9,.data⟩ (by simp) rfl;simp [rAt,IsV,slot] at q1 q4 q7 q9;clear hd ho;go_simp;refine (HFM.out wy).mono ?_;rintro e wz ⟨rfl,hz⟩;exact hK _ _ rfl hz
  apply GChV.v11
  ·rfl
  ·intro K' a wy ho hd hb hK kz;have o6:=ho 6 (by decide);simp [slot] at o6;clear hd ho;go_simp;try go_bits
   exact kz _ rfl
  apply GChV.v12
  ·rfl
  ·intro K' a wy ho hd hb hK kz;have q11:=hd ⟨11,.data⟩ (by simp) rfl;simp [rAt,IsV,slot] at q11;clear hd ho;have hst:=HCP.out wy hb;have HHk:=hst.at mE1;obtain ⟨k0,k1,k2,k3,k4⟩:=HHk.c5;clear HHk;have HHl:=hst.at mE0;obtain ⟨l0,l1,l2,l3,l4,l5,l6,l7⟩:=HHl.c8;clear HHl;have HHm:=hst.at mE4;obtain ⟨-,-,-,-,-,-,-,-,m8,-,m10⟩:=HHm.c11;clear HHm;clear hst;go_simp;try go_bits
   exact kz _ rfl
  apply GChV.v13
  ·rfl
  ·intro K' a wy ho hd hb hK kz;have q0:=hd ⟨0,.data⟩ (by simp) rfl;have q10:=hd ⟨10,.data⟩ (by simp) rfl;have q12:=hd ⟨12,.data⟩ (by simp) rfl;simp [rAt,IsV,slot] at q0 q10 q12;clear hd ho;go_simp;refine (HST.out wy).mono ?_;rintro e wz ⟨rfl,hz⟩;exact hK _ _ rfl hz
  refine GChV.rel (n:=14) (IsZy W4.drew.heap.size [.string ⟨#[]⟩,iV 0]) (stable_isZy _ _ (by simp)) [_,_,_,_,_,_,_,_,_,_,_,_,_,_,IsZy W4.drew.heap.size [.string ⟨#[]⟩,iV 0]] rfl rfl ?_ ?_
  ·intro K' a wy ho hd hb hK;rw [wN rfl];clear hd ho;go_simp;exact hK _ _ ⟨wy.heap.size,rfl,hb.size,HoldsL.new wy [.string ⟨#[]⟩,iV 0] 99⟩ ((Below.refl _ _).alloc (Nat.le_refl _) _)
  intro X wz hR hz;obtain ⟨x0,x1,x2,x3,x4,x5,x6,x7,x8,x9,x10,x11,x12,x13,x14,-⟩:=hR;obtain ⟨g8,e8,b8,y8⟩:=x14;simp only [IsV] at x0 x1 x2 x3 x4 x5 x6 x7 x8 x9 x10 x11 x12 x13;simp only [putsFrom,x0,x1,x2,x3,x4,x5,x6,x7,x8,x9,x10,x11,x12,x13,e8];clear x0 x1 x2 x3 x4 x5 x6 x7 x8 x9 x10 x11 x12 x13;have HF1:Hid (HoldsL (stor g8 wz 0 [.string sd,iV 0]) g8 [.string sd,iV 0]):=y8.stor [.string sd,iV 0] rfl;have HF2:Hid (Bxs w [(Xb,[.slice a9 nv.bib.binds.length c9,.slice b9 nv.bib.sess.length d9,iV nv.bind.proto,.string nv.bind.inn,iV nv.bind.inPort,.string nv.bind.out,iV nv.bind.outPort,iV nv.code]),(Fb,(FlV fl)),(w.heap.size,(PlV pa pc p)),(w.heap.size+1,(BbV ba ca bo cb x)),(w.heap.size+1+1,(P4R tos id whole more off ttl proto src dst opts data)),(w.heap.size+1+1+1,[.slice none 0 0,.slice none 0 0,iV 0,iV 0,.bool false,.bool false,iV 0,iV 0,iV 0,.string ⟨#[]⟩,.string ⟨#[]⟩,.string ⟨#[]⟩,.string ⟨#[]⟩,iV 0,iV 0,iV 0,iV 0,.string ⟨#[]⟩,.string ⟨#[]⟩,.bool false,.bool false,iV 0,iV 0,.string ⟨#[]⟩,iV 0])] (stor g8 wz 0 [.string sd,iV 0])):=(HCP.out wz hz).stor (by omega) (fun e he=>by have:=HLT.out e he; omega) _;have HF3:Hid (BbOwn W2.heap.size (stor g8 wz 0 [.string sd,iV 0]) a9 b9 nv.bib):=HOP.out _ (Below.stor b8 _ hz);obtain ⟨y0,y1⟩:=y8.c2;obtain ⟨yf0,yf1⟩:=y8.f2;simp only [stor,Nat.reduceAdd] at HF1 HF2 HF3;clear hz HCP HOP HLT y8;intro K10 hK10;go_simp;refine hK10 _ _ ?_;show Exit.then _ _ _ _ _;refine hK2 _ _ (hJ _ _ ?_);(repeat apply Exists.intro)
  exact ⟨⟨g8,rfl,HF1.out,HF2.out,HF3.out⟩,rfl⟩
 case rest =>
 obtain ⟨g8,rfl,hD,hS,hO⟩:=hcut;have D5:Hid _:=hD;have S5:Hid (Bxs w [(Xb,[.slice a9 nv.bib.binds.length c9,.slice b9 nv.bib.sess.length d9,iV nv.bind.proto,.string nv.bind.inn,iV nv.bind.inPort,.string nv.bind.out,iV nv.bind.outPort,iV nv.code]),(Fb,(FlV fl)),(w.heap.size,(PlV pa pc p)),(w.heap.size+1,(BbV ba ca bo cb x)),(w.heap.size+1+1,(P4R tos id whole more off ttl proto src dst opts data)),(w.heap.size+1+1+1,[.slice none 0 0,.slice none 0 0,iV 0,iV 0,.bool false,.bool false,iV 0,iV 0,iV 0,.string ⟨#[]⟩,.string ⟨#[]⟩,.string ⟨#[]⟩,.string ⟨#[]⟩,iV 0,iV 0,iV 0,iV 0,.string ⟨#[]⟩,.string ⟨#[]⟩,.bool false,.bool false,iV 0,iV 0,.string ⟨#[]⟩,iV 0])] wc):=hS;have O5:Hid _:=hO;have hg8:g8 < wc.heap.size:=hD.lt (by simp);clear hD hS hO S4 O4 HFM HST;generalize wc=W5 at *;have HHk:=S5.out.at mE0;obtain ⟨k0,k1,k2,k3,k4,k5,k6,k7⟩:=HHk.c8;clear HHk;have HHn:=S5.out.at mE4;obtain ⟨n0,n1,n2,n3,n4,n5,n6,n7,n8,n9,n10⟩:=HHn.c11;obtain ⟨-,-,-,-,-,-,-,nf7,-,-,nf10⟩:=HHn.f11;have dd0:=D5.out.cell (j:=0) rfl;have hxq:Xb≠w.heap.size+1+1:=by omega
 have S6:Hid (Bxs w [(w.heap.size+1+1,(P4R tos id whole more off ttl proto nv.bind.out dst opts sd)),(Xb,[.slice a9 nv.bib.binds.length c9,.slice b9 nv.bib.sess.length d9,iV nv.bind.proto,.string nv.bind.inn,iV nv.bind.inPort,.string nv.bind.out,iV nv.bind.outPort,iV nv.code]),(w.heap.size+1+1+1,[.slice none 0 0,.slice none 0 0,iV 0,iV 0,.bool false,.bool false,iV 0,iV 0,iV 0,.string ⟨#[]⟩,.string ⟨#[]⟩,.string ⟨#[]⟩,.string ⟨#[]⟩,iV 0,iV 0,iV 0,iV 0,.string ⟨#[]⟩,.string ⟨#[]⟩,.bool false,.bool false,iV 0,iV 0,.string ⟨#[]⟩,iV 0])] ((sW W5 (w.heap.size+1+1) 7 (.string nv.bind.out)).setCell ⟨w.heap.size+1+1,10,none⟩ (.string sd))):=⟨fun e he=>by
  simp only [List.mem_cons,List.not_mem_nil,or_false] at he;rcases he with rfl | rfl | rfl
  ·exact (HHn.set 7 (.string nv.bind.out)).set 10 (.string sd)
  ·exact HoldsL.setOther (HoldsL.setOther (S5.out.k _ mE0) hxq _) hxq _
  ·exact HoldsL.setOther (HoldsL.setOther (S5.out.k _ mE5) (by show w.heap.size+1+1+1≠w.heap.size+1+1; omega) _) (by show w.heap.size+1+1+1≠w.heap.size+1+1; omega) _,(S5.out.b.setCell (p:=⟨w.heap.size+1+1,7,none⟩) (by show w.heap.size≤w.heap.size+1+1; omega) _).setCell (p:=⟨w.heap.size+1+1,10,none⟩) (by show w.heap.size≤w.heap.size+1+1; omega) _,fun e he=>by
  simp only [List.mem_cons,List.not_mem_nil,or_false] at he;rcases he with rfl | rfl | rfl<;>simp⟩
 have O6:Hid (BbOwn W2.heap.size ((sW W5 (w.heap.size+1+1) 7 (.string nv.bind.out)).setCell ⟨w.heap.size+1+1,10,none⟩ (.string sd)) a9 b9 nv.bib):=⟨O5.out.bd.grown (grown_set (grown_set (World.grownBy.refl _ _) _) _) (by omega),O5.out.ss.grown (grown_set (grown_set (World.grownBy.refl _ _) _) _) (by omega),O5.out.ne⟩;clear HHn;go_upto_region 10 with fail
 generalize ((sW W5 (w.heap.size+1+1) 7 (.string nv.bind.out)).setCell ⟨w.heap.size+1+1,10,none⟩ (.string sd))=W6 at *;clear S5 O5 D5 dd0 nf7 nf10 hg8 k0 k1 k2 k3 k4 k5 k6 k7 n0 n1 n2 n3 n4 n5 n6 n7 n8 n9 n10;have HHn:=S6.out.at mE0;obtain ⟨n0,n1,n2,n3,n4,n5,n6,n7,n8,n9,n10⟩:=HHn.c11;clear HHn;have HHk:=S6.out.at mE1;obtain ⟨k0,k1,k2,k3,k4,k5,k6,k7⟩:=HHk.c8;clear HHk;have HTH:Hid (W6.there (w.heap.size+1+1+1) 0 (noL a9 b9 c9 d9 ⟨nv.bib,⟨tos,id,whole,more,off,ttl,proto,nv.bind.out,dst,opts,sd⟩,p6Zero,0⟩).toArray.size):=noL_there (show HoldsL W6 (w.heap.size+1+1+1) (noL none none 0 0 (noE 0)) from S6.out.k _ mE2) _ _ _ _ _;have HRR:Hid (HoldsL (W6.setCells (w.heap.size+1+1+1) 0 (noL a9 b9 c9 d9 ⟨nv.bib,⟨tos,id,whole,more,off,ttl,proto,nv.bind.out,dst,opts,sd⟩,p6Zero,0⟩).toArray.toList) (w.heap.size+1+1+1) (noL a9 b9 c9 d9 ⟨nv.bib,⟨tos,id,whole,more,off,ttl,proto,nv.bind.out,dst,opts,sd⟩,p6Zero,0⟩)):=(show HoldsL W6 (w.heap.size+1+1+1) (noL none none 0 0 (noE 0)) from S6.out.k _ mE2).mid rfl;have RB:Hid (Below w.heap.size w (W6.setCells (w.heap.size+1+1+1) 0 (noL a9 b9 c9 d9 ⟨nv.bib,⟨tos,id,whole,more,off,ttl,proto,nv.bind.out,dst,opts,sd⟩,p6Zero,0⟩).toArray.toList)):=Below.mid S6.out.b hRw _;have HOW:Hid (BbOwn w.heap.size (W6.setCells (w.heap.size+1+1+1) 0 (noL a9 b9 c9 d9 ⟨nv.bib,⟨tos,id,whole,more,off,ttl,proto,nv.bind.out,dst,opts,sd⟩,p6Zero,0⟩).toArray.toList) a9 b9 nv.bib):=(BbOwn.mid O6.out hR2 _).lowN hw2;clear O6 S6;go_wp2_with (refine wpList_store_mid (by rfl) 44 (.tmp 8) (.tmp 68) (by rfl) (w.heap.size+1+1+1) 0 (noL a9 b9 c9 d9 ⟨nv.bib,⟨tos,id,whole,more,off,ttl,proto,nv.bind.out,dst,opts,sd⟩,p6Zero,0⟩).toArray (by rfl) (by rfl) HTH.out no_info (noL_one _ _ _ _ _) ?_)
 exact bodyPost_ret (results_mid Tryz.results30 _ _ (w.heap.size+1+1+1) (noL a9 b9 c9 d9 ⟨nv.bib,⟨tos,id,whole,more,off,ttl,proto,nv.bind.out,dst,opts,sd⟩,p6Zero,0⟩) _ rfl HRR.out Tryz.underlying44 rfl no_info) rfl (And.intro (by rw [HV.out]; exact ⟨a9,b9,c9,d9,rfl,HOW.out⟩) RB.out)
end Go.Proofs.YtcckaeppiamebaaGreatDoor
