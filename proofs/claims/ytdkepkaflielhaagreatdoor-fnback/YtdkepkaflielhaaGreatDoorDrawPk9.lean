import Derived.Test.YtdkepkaflielhaaGreatDoorMerged22
set_option linter.unusedVariables false
set_option linter.unusedSimpArgs false
set_option maxRecDepth 100000
set_option maxHeartbeats 8000000
namespace Go.Proofs.YtdkepkaflielhaaGreatDoor
open Go.RowKit Go.PlainAid
abbrev jK(p:P4):List Value:=(dM p)
abbrev tI(f:Fl):List Value:=(gH f)
abbrev rG(t:Tc):List Value:=(FH t)
abbrev K9(w:World)(t:Tc):List (Nat × List Value):=[(w.heap.size,rG t),(w.heap.size+1,jK pZ)]
def qY(q:P4):Prop:=q.src.size≤1000∧q.dst.size≤1000∧q.opts.size≤1000∧q.data.size≤1000∧(q.VF=1→q.data.size=0∨∃i,6≤i∧bt q.data i≠0)
def SP(f:Fl):Prop:=f.src.size≤1000∧f.dst.size≤1000
def FF(t:Tc)(q:P4):Prop:=qY q∧q.VF=t.VF
def LJ(t:Tc)(f:Fl):Prop:=SP f∧f.VF=t.VF
def tC(n:Int):Value→World→Prop:=fun v _=>∃r,v=iV r∧0≤r∧r≤n
theorem vS{B:Nat}{n:Int}:cX (EB B) (tC n):=fun _ _ _ h _=>h
def OE:Value→World→Prop:=fun v _=>∃b,v=.bool b
theorem PG{B:Nat}:cX (EB B) OE:=fun _ _ _ h _=>h
def QM(s d:BA)(pr:Int):Value→World→Prop:=fun v _=>∃q:P4,v=.agg ((dM q).toArray)∧q.src=s∧q.dst=d∧q.opts=⟨#[]⟩∧q.data=⟨#[]⟩∧q.VF=pr
theorem PK{B:Nat}{s d:BA}{pr:Int}:cX (EB B) (QM s d pr):=fun _ _ _ h _=>h
theorem KC{f:Fl}(h:dR f=true):(0≤f.VF∧f.VF≤255)∧f.src.size≤16∧f.dst.size≤16∧(0≤f.sp∧f.sp≤65535)∧(0≤f.dp∧f.dp≤65535):=by
 unfold dR at h;simp only[UB]at h;obtain⟨⟨⟨⟨h1,h2⟩,h3⟩,h4⟩,_⟩:=h;obtain⟨h5,h6⟩:=kT h1;unfold cH at h2;unfold jS at h3 h4;simp only[UB,UV,UF]at h2 h3 h4;omega
def QL(n B:Nat)(ks:List (Nat × List Value))(L:List Value):Value→World→Prop:=fun v w=>∃b,v=.pointer (some ⟨b,0,none⟩)∧b≠B∧n≤b∧(∀e∈ks,e.1≠b)∧aA w b L
theorem PI{n B:Nat}{ks:List (Nat × List Value)}{L:List Value}(hL:0 < L.length):cX (EB B) (QL n B ks L):=fun v w w' ⟨b,h1,h2,h3,h4,h5⟩ he=>⟨b,h1,h2,h3,h4,h5.grown hL he (by simp;exact h2)⟩
theorem DB.add{w wx:World}{B:Nat}{sa:OA}{len cap:Nat}{size:Int}{ks:List (Nat × List Value)}(h:DB w B sa len cap size ks wx){b:Nat}{L:List Value}(hb:aA wx b L)(hL:0 < L.length)(hn:w.heap.size≤b):DB w B sa len cap size ((b,L)::ks) wx :=
 ⟨h.dr,fun e he=>(UH.1 he).elim (fun x=>by rw[x];exact hb) (h.k e),fun e he=>(UH.1 he).elim (fun x=>by rw[x];exact hL) (h.z e),fun e he=>(UH.1 he).elim (fun x=>by rw[x];exact hn) (h.n e)⟩
theorem KL{w:World}{b cap:Nat}{n:Int}(h0:0≤n)(h1:n≤255)(hc:w.cell? ⟨b,0,none⟩=some (.int .u8 n)) :
  ∃u:BA,u.size=1∧(convert 22 9 (.slice (some ⟨b,0,none⟩) 1 cap)).run Tryz.prog w=.ok (.string u) w :=
 ⟨⟨[UInt8.ofNat n.toNat].toArray⟩,rfl,run_convert_bytes_back (P:=Tryz.prog) w 22 9 5 ⟨b,0,none⟩ cap [UInt8.ofNat n.toNat] Tryz.underlying22 Tryz.underlying5 Tryz.underlying9 (fun j hj=>by
  match j,hj with
  | 0,_=>simp only[Addr.add,Nat.add_zero,UZ];rw[fM _ (by omega) (by omega)];exact hc)⟩
theorem sE(t:Tc)(B:Nat)(sa:OA)(len cap:Nat)(size:Int)(w:World)(hl:len≤1048576)(ht:oH t)(hs:iY w B sa len cap size) :
  Calls Tryz.prog 51 #[.pointer (some ⟨B,0,none⟩),pJ t] w fun e w'=>(∃q:P4,e=.returned (kL q)∧qY q)∧iY w' B sa len cap size∧w.grownBy w' (some B):=by
 have ha1:t.addr.size≤1000:=ht.1;have hp1:t.peer.size≤1000:=ht.2.1;clear ht;have hBW:B < w.heap.size:=(Dr.start hs).hB;unfold pJ;have e0:aA ((aW w (FH t) 89).alloc (.cells (eP 0 0 false false 0 0 0 ⟨#[]⟩ ⟨#[]⟩ ⟨#[]⟩ ⟨#[]⟩).toArray 33)) (w.heap.size) (FH t):=by
  have h:=aA.new w (FH t) 89;try simp only[UC]at h
  exact(h.alloc _)
 have e1:aA ((aW w (FH t) 89).alloc (.cells (eP 0 0 false false 0 0 0 ⟨#[]⟩ ⟨#[]⟩ ⟨#[]⟩ ⟨#[]⟩).toArray 33)) (w.heap.size+1) (eP 0 0 false false 0 0 0 ⟨#[]⟩ ⟨#[]⟩ ⟨#[]⟩ ⟨#[]⟩):=by
  have h:=aA.new (w.alloc (.cells (FH t).toArray 89)) (eP 0 0 false false 0 0 0 ⟨#[]⟩ ⟨#[]⟩ ⟨#[]⟩ ⟨#[]⟩) 33;try simp only[UC]at h
  exact h
 have S0:Hid (DB w B sa len cap size (K9 w t) ((aW w (FH t) 89).alloc (.cells (eP 0 0 false false 0 0 0 ⟨#[]⟩ ⟨#[]⟩ ⟨#[]⟩ ⟨#[]⟩).toArray 33))):=by
  refine⟨(((Dr.start hs).alloc _).alloc _),fun e he=>?_,fun e he=>?_,fun e he=>?_⟩
  ·simp only[UH,UG,or_false]at he;rcases he with rfl|rfl
   ·exact e0
   ·exact e1
  ·simp only[UH,UG,or_false]at he;rcases he with rfl|rfl<;>simp
  ·simp only[UH,UG,or_false]at he;rcases he with rfl|rfl<;>simp
 clear e0 e1 hs;have hun:undef=Value.tuple #[]:=rfl;go_enter Tryz.func51,Tryz.ntmps51
 go_upto_region 1 with fail
 generalize World.alloc _ _=W0 at *;go_cut [5] (fun v wx=>∃g q,v=.pointer (some ⟨g,0,none⟩)∧FF t q∧w.heap.size≤g∧(∀e∈(K9 w t),e.1≠g)∧DB w B sa len cap size ((g,jK q)::K9 w t) wx)
 case first=>
  rename_i J K2 hJ hK2;clear hun;refine dY (EB B) (fun wx=>DB w B sa len cap size (K9 w t) wx) [9,10,11,12,13,14,15,16,17,18,19,20,21,22,23,24,5] (by kernel_rfl) (by kernel_rfl) (S0.out.below bR.drew) ?_;(apply cS.u xQ rfl;(·intro K' a wy ho hd hI hK;simp[aU,aG,aD,Region.binds]at ho hd;go_simp;(try go_bits);exact hK _ rfl);dsimp only[nA,cA])
  refine cS.rel (n:=1) (tC 255) (vS) [_,tC 255] rfl rfl ?_ ?_
  ·intro K' a wy ho hd hI hK;rw[wN rfl];have q0:=hd ⟨0,.data⟩ (by simp) rfl;simp[aU,aG,aD]at q0;clear hd ho;go_simp;refine(aV 256 B sa len cap size wy (by omega) (by omega) hl hI.dr.src).mono ?_;rintro e wz ⟨r,rfl,h0,h1,hsz,hgz⟩;exact hK _ _ ⟨r,rfl,h0,by omega⟩ hgz (hI.draw hsz hgz)
  (apply cS.u xQ rfl;(·intro K' a wy ho hd hI hK;simp[aU,aG,aD,Region.binds]at ho hd;go_simp;(try go_bits);exact hK _ rfl);dsimp only[nA,cA])
  refine cS.rel (n:=3) (tC 8) (vS) [_,_,_,tC 8] rfl rfl ?_ ?_
  ·intro K' a wy ho hd hI hK;rw[wN rfl];have q2:=hd ⟨2,.data⟩ (by simp) rfl;simp[aU,aG,aD]at q2;clear hd ho;go_simp;refine(aV 9 B sa len cap size wy (by omega) (by omega) hl hI.dr.src).mono ?_;rintro e wz ⟨r,rfl,h0,h1,hsz,hgz⟩;exact hK _ _ ⟨r,rfl,h0,by omega⟩ hgz (hI.draw hsz hgz)
  (apply cS.u xQ rfl;(·intro K' a wy ho hd hI hK;simp[aU,aG,aD,Region.binds]at ho hd;go_simp;(try go_bits);exact hK _ rfl);dsimp only[nA,cA])
  refine cS.rel (n:=5) (OE) (PG) [_,_,_,_,_,OE] rfl rfl ?_ ?_
  ·intro K' a wy ho hd hI hK;rw[wN rfl];have q4:=hd ⟨4,.data⟩ (by simp) rfl;simp[aU,aG,aD]at q4;clear hd ho;go_simp;refine(bS 2 B sa len cap size wy (by omega) hl hI.dr.src).mono ?_;rintro e wz ⟨r,rfl,hsz,hgz⟩;exact hK _ _ ⟨r,rfl⟩ hgz (hI.draw hsz hgz)
  (apply cS.u xQ rfl;(·intro K' a wy ho hd hI hK;simp[aU,aG,aD,Region.binds]at ho hd;go_simp;(try go_bits);exact hK _ rfl);dsimp only[nA,cA])
  refine cS.rel (n:=7) (tC 59) (vS) [_,_,_,_,_,_,_,tC 59] rfl rfl ?_ ?_
  ·intro K' a wy ho hd hI hK;rw[wN rfl];have q6:=hd ⟨6,.data⟩ (by simp) rfl;simp[aU,aG,aD]at q6;clear hd ho;go_simp;refine(aV 60 B sa len cap size wy (by omega) (by omega) hl hI.dr.src).mono ?_;rintro e wz ⟨r,rfl,h0,h1,hsz,hgz⟩;exact hK _ _ ⟨r,rfl,h0,by omega⟩ hgz (hI.draw hsz hgz)
  refine cS.rel (n:=8) (tC 60) (vS) [_,_,_,_,_,_,_,_,tC 60] rfl rfl ?_ ?_
  ·intro K' a wy ho hd hI hK;rw[wN rfl];obtain⟨k7,e7,l7,u7⟩: tC 59 (aD a 16) wy:=hd ⟨7,.data⟩ (by simp) rfl;simp[aD]at e7;clear hd ho;go_simp;try go_bits
   exact hK _ _ ⟨_,rfl,by omega,by omega⟩ (EB.of bR) hI
  iterate 6 (apply cS.u xQ rfl;(·intro K' a wy ho hd hI hK;simp[aU,aG,aD,Region.binds]at ho hd;have y0:wy.cell? ⟨w.heap.size,0,none⟩=some (iV t.VF):=(show aA wy w.heap.size (rG t) from hI.at cM).cell rfl;have y2:wy.cell? ⟨w.heap.size,2,none⟩=some (.string t.addr):=(show aA wy w.heap.size (rG t) from hI.at cM).cell rfl;have y4:wy.cell? ⟨w.heap.size,4,none⟩=some (.string t.peer):=(show aA wy w.heap.size (rG t) from hI.at cM).cell rfl;go_simp;(try go_bits);exact hK _ rfl);dsimp only[nA,cA])
  refine cS.rel (n:=15) (QM t.addr t.peer t.VF) (PK) [_,_,_,_,_,_,_,_,_,_,_,_,_,_,_,QM t.addr t.peer t.VF] rfl rfl ?_ ?_
  ·intro K' a wy ho hd hI hK;rw[wN rfl];obtain⟨k1,e1,l1,u1⟩: tC 255 (aD a 10) wy:=hd ⟨1,.data⟩ (by simp) rfl;simp[aD]at e1;obtain⟨k3,e3,l3,u3⟩: tC 8 (aD a 12) wy:=hd ⟨3,.data⟩ (by simp) rfl;simp[aD]at e3;obtain⟨k5,e5⟩: OE (aD a 14) wy:=hd ⟨5,.data⟩ (by simp) rfl;simp[aD]at e5;obtain⟨k8,e8,l8,u8⟩: tC 60 (aD a 17) wy:=hd ⟨8,.data⟩ (by simp) rfl;simp[aD]at e8;have q10:=hd ⟨10,.data⟩ (by simp) rfl;have q12:=hd ⟨12,.data⟩ (by simp) rfl;have q14:=hd ⟨14,.data⟩ (by simp) rfl;simp[aU,aG,aD]at q10 q12 q14;clear hd ho;go_simp;exact hK _ _ ⟨⟨k1,k3,k5,false,0,k8,t.VF,t.addr,t.peer,⟨#[]⟩,⟨#[]⟩⟩,rfl,rfl,rfl,rfl,rfl,rfl⟩ (EB.of bR) hI
  refine cS.rel (n:=16) (QL w.heap.size B (K9 w t) (eP 0 0 false false 0 0 0 ⟨#[]⟩ ⟨#[]⟩ ⟨#[]⟩ ⟨#[]⟩)) (PI (by simp)) [_,_,_,_,_,_,_,_,_,_,_,_,_,_,_,_,QL w.heap.size B (K9 w t) (eP 0 0 false false 0 0 0 ⟨#[]⟩ ⟨#[]⟩ ⟨#[]⟩ ⟨#[]⟩)] rfl rfl ?_ ?_
  ·intro K' a wy ho hd hI hK;rw[wN rfl];clear hd ho;go_simp;exact hK _ _ ⟨wy.heap.size,rfl,by have:=hI.dr.le;omega,hI.dr.le,fun e he=>Nat.ne_of_lt (hI.lts e he),aA.new wy (eP 0 0 false false 0 0 0 ⟨#[]⟩ ⟨#[]⟩ ⟨#[]⟩ ⟨#[]⟩) _⟩ (EB.of (bR.alloc lR _)) (hI.below (bR.alloc lR _))
  intro X wz hR hI;obtain⟨x0,x1,x2,x3,x4,x5,x6,x7,x8,x9,x10,x11,x12,x13,x14,x15,x16,-⟩:=hR;obtain⟨k15,e15,s15,d15,o15,t15,r15⟩:=x15;obtain⟨b16,e16,n16,g16,h16,z16⟩:=x16;simp only[aG]at x0 x2 x4 x6 x9 x10 x11 x12 x13 x14;simp only[aE,x0,aE,x2,aE,x4,aE,x6,aE,aE,x9,x10,x11,x12,x13,x14,e15,e16];clear x0 x2 x4 x6 x9 x10 x11 x12 x13 x14;obtain⟨z0,z1,z2,z3,z4,z5,z6,z7,z8,z9,z10⟩:=z16.c11;obtain⟨zf0,zf1,zf2,zf3,zf4,zf5,zf6,zf7,zf8,zf9,zf10⟩:=z16.f11;have hD0:=hI.add z16 (by simp) g16;have hD1:=hD0.set (vs':=(eP k15.tos 0 false false 0 0 0 ⟨#[]⟩ ⟨#[]⟩ ⟨#[]⟩ ⟨#[]⟩)) 0 (iV k15.tos) rfl h16;have hD2:=hD1.set (vs':=(eP k15.tos k15.id false false 0 0 0 ⟨#[]⟩ ⟨#[]⟩ ⟨#[]⟩ ⟨#[]⟩)) 1 (iV k15.id) rfl h16;have hD3:=hD2.set (vs':=(eP k15.tos k15.id k15.whole false 0 0 0 ⟨#[]⟩ ⟨#[]⟩ ⟨#[]⟩ ⟨#[]⟩)) 2 (.bool k15.whole) rfl h16;have hD4:=hD3.set (vs':=(eP k15.tos k15.id k15.whole k15.more 0 0 0 ⟨#[]⟩ ⟨#[]⟩ ⟨#[]⟩ ⟨#[]⟩)) 3 (.bool k15.more) rfl h16;have hD5:=hD4.set (vs':=(eP k15.tos k15.id k15.whole k15.more k15.off 0 0 ⟨#[]⟩ ⟨#[]⟩ ⟨#[]⟩ ⟨#[]⟩)) 4 (iV k15.off) rfl h16;have hD6:=hD5.set (vs':=(eP k15.tos k15.id k15.whole k15.more k15.off k15.ttl 0 ⟨#[]⟩ ⟨#[]⟩ ⟨#[]⟩ ⟨#[]⟩)) 5 (iV k15.ttl) rfl h16;have hD7:=hD6.set (vs':=(eP k15.tos k15.id k15.whole k15.more k15.off k15.ttl k15.VF ⟨#[]⟩ ⟨#[]⟩ ⟨#[]⟩ ⟨#[]⟩)) 6 (iV k15.VF) rfl h16;have hD8:=hD7.set (vs':=(eP k15.tos k15.id k15.whole k15.more k15.off k15.ttl k15.VF k15.src ⟨#[]⟩ ⟨#[]⟩ ⟨#[]⟩)) 7 (.string k15.src) rfl h16;have hD9:=hD8.set (vs':=(eP k15.tos k15.id k15.whole k15.more k15.off k15.ttl k15.VF k15.src k15.dst ⟨#[]⟩ ⟨#[]⟩)) 8 (.string k15.dst) rfl h16;have hD10:=hD9.set (vs':=(eP k15.tos k15.id k15.whole k15.more k15.off k15.ttl k15.VF k15.src k15.dst k15.opts ⟨#[]⟩)) 9 (.string k15.opts) rfl h16;have hD11:=hD10.set (vs':=(dM k15)) 10 (.string k15.data) rfl h16;have HD:Hid (DB w B sa len cap size ((b16,jK k15)::K9 w t) ((sW (sW (sW (sW (sW (sW (sW (sW (sW (sW wz b16 0 (iV k15.tos)) b16 1 (iV k15.id)) b16 2 (.bool k15.whole)) b16 3 (.bool k15.more)) b16 4 (iV k15.off)) b16 5 (iV k15.ttl)) b16 6 (iV k15.VF)) b16 7 (.string k15.src)) b16 8 (.string k15.dst)) b16 9 (.string k15.opts)).setCell ⟨b16,10,none⟩ (.string k15.data))):=hD11;have hpk:FF t k15:=⟨⟨by rw[s15];exact ha1,by rw[d15];exact hp1,by rw[o15];decide,by rw[t15];decide,fun _=>.inl (by rw[t15];rfl)⟩,r15⟩
  clear r15 s15 d15 o15 t15 hD1 hD2 hD3 hD4 hD5 hD6 hD7 hD8 hD9 hD10 hD11 hD0 z16 hI;intro K5 hK5;go_simp;refine hK5 _ _ ?_;show Exit.then _ _ _ _ _;refine hK2 _ _ (hJ _ _ ?_);(repeat apply Exists.intro)
  exact⟨⟨b16,k15,rfl,hpk,g16,h16,HD.out⟩,rfl⟩
 case rest=>
 obtain⟨Pb,q0,rfl,hq,hwp,hnp,hS⟩:=hcut;have HQ0:Hid (FF t q0):=hq;have HNP:Hid (∀e∈(K9 w t),e.1≠Pb):=hnp;have S1:Hid (DB w B sa len cap size ((Pb,jK q0)::K9 w t) wc):=hS;clear hq hnp hS S0;generalize wc=W1 at *;have y0:W1.cell? ⟨w.heap.size,0,none⟩=some (iV t.VF):=(show aA W1 w.heap.size (rG t) from S1.out.at dZ).cell rfl;have y2:W1.cell? ⟨w.heap.size,2,none⟩=some (.string t.addr):=(show aA W1 w.heap.size (rG t) from S1.out.at dZ).cell rfl;have y3:W1.cell? ⟨w.heap.size,3,none⟩=some (iV t.port):=(show aA W1 w.heap.size (rG t) from S1.out.at dZ).cell rfl;have y4:W1.cell? ⟨w.heap.size,4,none⟩=some (.string t.peer):=(show aA W1 w.heap.size (rG t) from S1.out.at dZ).cell rfl;have y5:W1.cell? ⟨w.heap.size,5,none⟩=some (iV t.VG):=(show aA W1 w.heap.size (rG t) from S1.out.at dZ).cell rfl;go_upto_region 3 with fail
 have hPF:Pb < W1.heap.size:=S1.out.lts (_,_) cM;have hlt0:=S1.out.lts;have S2':Hid _:=S1.out.push (cR t.VF t.addr t.peer t.port t.VG) (by simp) 43;have HNF:Hid (∀l,∀e∈((Pb,l)::(K9 w t)),e.1≠W1.heap.size):=fun l e he=>(UH.1 he).elim (fun h=>by rw[h];show Pb≠_;omega) (fun h=>Nat.ne_of_lt (hlt0 e (.tail _ h)))
 clear hlt0 S1 y0 y2 y3 y4 y5;generalize (W1.alloc (.cells (cR t.VF t.addr t.peer t.port t.VG).toArray 43))=W2 at *;generalize W1.heap.size=Fb at *;have hFP:Fb≠Pb:=by omega
 have HNPF:Hid (∀l,∀e∈((Fb,l)::(K9 w t)),e.1≠Pb):=fun l e he=>(UH.1 he).elim (fun h=>by rw[h];exact hFP) (fun h=>HNP.out e h)
 obtain⟨f0,hf0⟩: ∃f:Fl,f=⟨t.VF,t.addr,t.peer,t.port,t.VG⟩:=⟨_,rfl⟩;have HF0:Hid (LJ t f0):=by unfold Hid;rw[hf0];exact⟨⟨ha1,hp1⟩,rfl⟩
 have S2:Hid (DB w B sa len cap size ((Fb,tI f0)::(Pb,jK q0)::K9 w t) W2):=by unfold Hid;rw[hf0];exact S2'.out
 clear hf0 S2';have y1:W2.cell? ⟨w.heap.size,1,none⟩=some (.bool t.VJ):=(show aA W2 w.heap.size (rG t) from S2.out.at eL).cell rfl;obtain⟨ins,hin⟩: ∃b,b=t.VJ:=⟨_,rfl⟩;rw[←hin]at y1;clear hin;go_upto_if 38 with fail
 go_cut [] (fun wx=>∃q f,FF t q∧LJ t f∧DB w B sa len cap size ((Fb,tI f)::(Pb,jK q)::K9 w t) wx)
 case first=>
  cases ins with
  | true=>
   go_wp2_with fail
   go_meet;exact⟨q0,f0,HQ0.out,HF0.out,S2.out⟩
  | false=>
   clear y1;have y0:W2.cell? ⟨w.heap.size,0,none⟩=some (iV t.VF):=(show aA W2 w.heap.size (rG t) from S2.out.at eL).cell rfl;have y2:W2.cell? ⟨w.heap.size,2,none⟩=some (.string t.addr):=(show aA W2 w.heap.size (rG t) from S2.out.at eL).cell rfl;have y3:W2.cell? ⟨w.heap.size,3,none⟩=some (iV t.port):=(show aA W2 w.heap.size (rG t) from S2.out.at eL).cell rfl;have y4:W2.cell? ⟨w.heap.size,4,none⟩=some (.string t.peer):=(show aA W2 w.heap.size (rG t) from S2.out.at eL).cell rfl;have y5:W2.cell? ⟨w.heap.size,5,none⟩=some (iV t.VG):=(show aA W2 w.heap.size (rG t) from S2.out.at eL).cell rfl;have HHf:aA W2 Fb (tI f0):=S2.out.at cM;obtain⟨x0,x1,x2,x3,x4⟩:=HHf.c5;obtain⟨xf0,xf1,xf2,xf3,xf4⟩:=HHf.f5;clear HHf;have HHq:aA W2 Pb (jK q0):=S2.out.at dZ;obtain⟨-,-,-,-,-,-,-,u7,u8⟩:=HHq.c9;obtain⟨-,-,-,-,-,-,-,uf7,uf8⟩:=HHq.f9;clear HHq;have S3:Hid _:=(((((((((((S2.out.set 0 (iV t.VF) rfl (HNF.out _)).set 1 (.string t.peer) rfl (HNF.out _)).set 2 (.string t.addr) rfl (HNF.out _)).set 3 (iV t.VG) rfl (HNF.out _)).set 4 (iV t.port) rfl (HNF.out _)).swap).set 7 (.string t.peer) rfl (HNPF.out _)).swap).swap).set 8 (.string t.addr) rfl (HNPF.out _)).swap);go_wp2_with fail
   go_meet;exact⟨{ q0 with src:=t.peer,dst:=t.addr },⟨t.VF,t.peer,t.addr,t.VG,t.port⟩,⟨⟨hp1,ha1,HQ0.out.1.2.2⟩,HQ0.out.2⟩,⟨⟨hp1,ha1⟩,rfl⟩,S3.out⟩
 case rest=>
 obtain⟨q1,f1,hq,hf,hS⟩:=hcut;have HQ1:Hid (FF t q1):=hq;have HF1:Hid (LJ t f1):=hf;have S3:Hid (DB w B sa len cap size ((Fb,tI f1)::(Pb,jK q1)::K9 w t) wc):=hS;clear hq hf hS S2 HQ0 HF0 y1;generalize wc=W3 at *;have HHf:aA W3 Fb (tI f1):=S3.out.at cM;have x0:=HHf.cell (j:=0) rfl;clear HHf;go_upto_if 58 with fail
 go_cut [] (fun wx=>∃q f,FF t q∧LJ t f∧DB w B sa len cap size ((Fb,tI f)::(Pb,jK q)::K9 w t) wx)
 case first=>
  by_cases hi:f1.VF=1
  case neg=>
   have hb:(f1.VF==1)=false:=by simp[hi]
   go_wp2_with fail
   go_meet;exact⟨q1,f1,HQ1.out,HF1.out,S3.out⟩
  have hb:(f1.VF==1)=true:=by simp[hi]
  have y3:W3.cell? ⟨w.heap.size,3,none⟩=some (iV t.port):=(show aA W3 w.heap.size (rG t) from S3.out.at eL).cell rfl;have HHf:aA W3 Fb (tI f1):=S3.out.at cM;obtain⟨-,-,-,x3,x4⟩:=HHf.c5;obtain⟨-,-,-,xf3,xf4⟩:=HHf.f5;clear HHf;have S4:Hid _:=((S3.out.set 4 (iV t.port) rfl (HNF.out _)).set 3 (iV t.port) rfl (HNF.out _));go_wp2_with fail
  go_meet;exact⟨q1,{ f1 with sp:=t.port,dp:=t.port },HQ1.out,HF1.out,S4.out⟩
 case rest=>
 obtain⟨q2,f2,hq,hf,hS⟩:=hcut;have HQ2:Hid (FF t q2):=hq;have HF2:Hid (LJ t f2):=hf;have S5:Hid (DB w B sa len cap size ((Fb,tI f2)::(Pb,jK q2)::K9 w t) wc):=hS;clear hq hf hS S3 HQ1 HF1 x0;generalize wc=W5 at *;have HHf:aA W5 Fb (tI f2):=S5.out.at cM;obtain⟨x0,x1,x2,x3,x4⟩:=HHf.c5;clear HHf;have HFR:Hid (∀W,Cb 43 #[.agg (gH f2).toArray] W (.bool (dR f2))):=fun W=>sV f2 W (by have:=HF2.out.1.1;omega) (by have:=HF2.out.1.2;omega)
 have HFO:Hid (dR f2=true→(0≤f2.VF∧f2.VF≤255)∧f2.src.size≤16∧f2.dst.size≤16∧(0≤f2.sp∧f2.sp≤65535)∧(0≤f2.dp∧f2.dp≤65535)):=KC;generalize dR f2=fo at *;go_wp2_with fail
 refine(HFR.out _).mono ?_;rintro e W6 ⟨rfl,h6⟩;have S6:Hid (DB w B sa len cap size ((Fb,tI f2)::(Pb,jK q2)::K9 w t) W6):=S5.out.below h6;clear h6 HFR S5 x0 x1 x2 x3 x4;go_upto_if 66 with fail
 go_cut [] (fun wx=>∃q,qY q∧DB w B sa len cap size ((Pb,jK q)::K9 w t) wx)
 case first=>
  cases fo with
  | false=>
   go_wp2_with fail
   go_meet;exact⟨q2,HQ2.out.1,S6.out.tail⟩
  | true=>
   obtain⟨hpr,hss,hds,hsp,hdp⟩:=HFO.out rfl;clear HFO;have HHf:aA W6 Fb (tI f2):=S6.out.at cM;obtain⟨x0,x1,x2,x3,x4⟩:=HHf.c5;clear HHf;go_wp2_with fail
   refine(AE f2.VF f2.src f2.dst f2.sp f2.dp B sa len cap size _ hpr hss hds hsp hdp hl S6.out.dr.src).mono ?_;rintro e W7 ⟨⟨dt,rfl,hd1,hd2,hd3⟩,hs,hg⟩;have S7:Hid (DB w B sa len cap size ((Fb,tI f2)::(Pb,jK q2)::K9 w t) W7):=S6.out.draw hs hg;clear hs hg S6 x0 x1 x2 x3 x4 hss hds hsp hdp hpr;have HHq:aA W7 Pb (jK q2):=S7.out.at dZ;have u10:=HHq.cell (j:=10) rfl;have uf10:=HHq.free (j:=10) (by simp);clear HHq;have S8:Hid (DB w B sa len cap size ((Fb,tI f2)::(Pb,(eP q2.tos q2.id q2.whole q2.more q2.off q2.ttl q2.VF q2.src q2.dst q2.opts dt))::K9 w t) (W7.setCell ⟨Pb,10,none⟩ (.string dt))):=(((S7.out.swap).set 10 (.string dt) rfl (HNPF.out _)).swap);go_upto_region 12 with fail
   generalize (W7.setCell ⟨Pb,10,none⟩ (.string dt))=W8 at *;clear S7 u10 uf10;have HQ3:Hid (qY { q2 with data:=dt }):=⟨HQ2.out.1.1,HQ2.out.1.2.1,HQ2.out.1.2.2.1,by show dt.size≤1000;omega,fun h1=>.inr (hd3 (by have:=HF2.out.2;have:=HQ2.out.2;have h1':q2.VF=1:=h1;omega) (by have:=HF2.out.2;have:=HQ2.out.2;have h1':q2.VF=1:=h1;omega))⟩;have HPT:Hid (q2.VF=f2.VF):=HQ2.out.2.trans HF2.out.2.symm;clear hd3;clear HQ2;have HHf:aA W8 Fb (tI f2):=S8.out.at cM;have x0:=HHf.cell (j:=0) rfl;clear HHf;by_cases h6:f2.VF=6
   case neg=>
    have hb:(f2.VF==6)=false:=by simp[h6]
    go_wp2_with fail
    go_meet;exact⟨{ q2 with data:=dt },HQ3.out,S8.out.tail⟩
   have hb:(f2.VF==6)=true:=by simp[h6]
   have H6P:Hid (¬f2.VF=1):=by unfold Hid;omega
   have hd3:18≤dt.size:=by rw[h6]at hd2;unfold dQ at hd2;simp at hd2;omega
   clear hd2;have y6:W8.cell? ⟨w.heap.size,6,none⟩=some (iV t.VM):=(show aA W8 w.heap.size (rG t) from S8.out.at eL).cell rfl;have HBY:Hid (∀W,Cw 38 #[iV t.VM] W (.bool (aO t.VM 0 255))):=fun W=>iT _ W
   have HIN:Hid (aO t.VM 0 255=true→0≤t.VM∧t.VM≤255):=fun h=>by unfold aO at h;simpa using h
   generalize aO t.VM 0 255=fb at *;go_wp2_with fail
   refine(HBY.out _).mono ?_;rintro e w9 ⟨rfl,hw9⟩;obtain rfl:W8=w9:=hw9.symm;clear HBY
   cases fb with
   | false=>
    go_wp2_with fail
    go_meet;exact⟨{ q2 with data:=dt },HQ3.out,S8.out.tail⟩
   | true=>
    obtain⟨hl0,hl1⟩:=HIN.out rfl;clear HIN y6;have u10:W8.cell? ⟨Pb,10,none⟩=some (.string dt):=(show aA W8 Pb (eP q2.tos q2.id q2.whole q2.more q2.off q2.ttl q2.VF q2.src q2.dst q2.opts dt) from S8.out.at dZ).cell rfl;have HA:Hid (∀(s:BA) (k:Nat) W,k+1 < s.size→s.size≤1000→Calls Tryz.prog 42 #[.string s,iV k] W fun e w'=>(∃r,e=.returned (iV r)∧0≤r∧r≤65535)∧Below W.heap.size W w'):=fun s k W h1 h2=>(rU s k W h1 (by unfold maxLen;omega)).mono fun e w' h=>⟨⟨_,h.1,(cW (bH s) k).1,(cW (bH s) k).2⟩,h.2⟩
    go_wp2_with fail
    refine(HA.out dt 12 _ (by omega) (by omega)).mono ?_;rintro e Wa ⟨⟨old,rfl,old0,old1⟩,hb9⟩;have TWa:Hid (DB w B sa len cap size ((Fb,tI f2)::(Pb,(eP q2.tos q2.id q2.whole q2.more q2.off q2.ttl q2.VF q2.src q2.dst q2.opts dt))::K9 w t) Wa):=S8.out.below hb9;clear hb9;clear S8 u10 x0;have u10:Wa.cell? ⟨Pb,10,none⟩=some (.string dt):=(show aA Wa Pb (eP q2.tos q2.id q2.whole q2.more q2.off q2.ttl q2.VF q2.src q2.dst q2.opts dt) from TWa.out.at dZ).cell rfl;have y6:Wa.cell? ⟨w.heap.size,6,none⟩=some (iV t.VM):=(show aA Wa w.heap.size (rG t) from TWa.out.at eL).cell rfl;go_upto_region 14 with fail
    obtain⟨o1,ho1,hcv⟩:=KL (w:=Wa.alloc (.cells #[.int .u8 t.VM] 5)) (b:=Wa.heap.size) (cap:=1) (n:=t.VM) hl0 hl1 (by simp);have Tb:Hid (DB w B sa len cap size ((Fb,tI f2)::(Pb,(eP q2.tos q2.id q2.whole q2.more q2.off q2.ttl q2.VF q2.src q2.dst q2.opts dt))::K9 w t) (Wa.alloc (.cells #[.int .u8 t.VM] 5))):=TWa.out.below (bR.alloc lR _);go_wp2_with fail
    refine(iQ dt 13 o1 _ (by omega) (by omega)).mono ?_;rintro e Wc ⟨d1,rfl,hz1,hb9⟩;have Tc:Hid (DB w B sa len cap size ((Fb,tI f2)::(Pb,(eP q2.tos q2.id q2.whole q2.more q2.off q2.ttl q2.VF q2.src q2.dst q2.opts dt))::K9 w t) Wc):=Tb.out.below hb9;clear hb9 Tb TWa hcv y6 u10;go_wp2_with fail
    refine(HA.out d1 16 _ (by omega) (by omega)).mono ?_;rintro e Wd ⟨⟨ra,rfl,ra0,ra1⟩,hb9⟩;have TWd:Hid (DB w B sa len cap size ((Fb,tI f2)::(Pb,(eP q2.tos q2.id q2.whole q2.more q2.off q2.ttl q2.VF q2.src q2.dst q2.opts dt))::K9 w t) Wd):=Tc.out.below hb9;clear hb9;clear Tc;go_wp2_with fail
    refine(HA.out d1 12 _ (by omega) (by omega)).mono ?_;rintro e We ⟨⟨rb,rfl,rb0,rb1⟩,hb9⟩;have TWe:Hid (DB w B sa len cap size ((Fb,tI f2)::(Pb,(eP q2.tos q2.id q2.whole q2.more q2.off q2.ttl q2.VF q2.src q2.dst q2.opts dt))::K9 w t) We):=TWd.out.below hb9;clear hb9;clear TWd;go_wp2_with fail
    refine(yO ra old rb _ ⟨ra0,ra1⟩ ⟨old0,old1⟩ ⟨rb0,rb1⟩).mono ?_;rintro e w9 ⟨rfl,rfl⟩;obtain⟨tr,htr⟩: ∃y,y=65535-gE (gE (65535-ra) (65535-old)) rb:=⟨_,rfl⟩;have htr2:0≤tr∧tr≤65535:=by
     have r1:=iR (a:=65535-ra) (b:=65535-old) (by omega) (by omega) (by omega) (by omega);have r2:=iR r1.1 r1.2 rb0 rb1;omega
    rw[←htr];clear htr;go_wp2_with fail
    refine(bY tr _ htr2.1 htr2.2).mono ?_;rintro e Wf ⟨rfl,hb9⟩;have Tf:Hid (DB w B sa len cap size ((Fb,tI f2)::(Pb,(eP q2.tos q2.id q2.whole q2.more q2.off q2.ttl q2.VF q2.src q2.dst q2.opts dt))::K9 w t) Wf):=TWe.out.below hb9;clear hb9 TWe;have hz2:=aP tr;generalize aR tr=tv at *;go_wp2_with fail
    refine(iQ d1 16 tv _ (by omega) (by omega)).mono ?_;rintro e Wg ⟨d2,rfl,hz3,hb9⟩;have Tg:Hid (DB w B sa len cap size ((Fb,tI f2)::(Pb,(eP q2.tos q2.id q2.whole q2.more q2.off q2.ttl q2.VF q2.src q2.dst q2.opts dt))::K9 w t) Wg):=Tf.out.below hb9;clear hb9 Tf;have HHq:aA Wg Pb (eP q2.tos q2.id q2.whole q2.more q2.off q2.ttl q2.VF q2.src q2.dst q2.opts dt):=Tg.out.at dZ;have u10:=HHq.cell (j:=10) rfl;have uf10:=HHq.free (j:=10) (by simp);clear HHq;have Sz:Hid _:=(((Tg.out.swap).set 10 (.string d2) rfl (HNPF.out _)).swap);go_wp2_with fail
    go_meet;exact⟨{ q2 with data:=d2 },⟨HQ3.out.1,HQ3.out.2.1,HQ3.out.2.2.1,by show d2.size≤1000;omega,fun h1=>absurd ((HPT.out.symm.trans h1:f2.VF=1)) H6P.out⟩,Sz.out.tail⟩
 case rest=>
 obtain⟨q3,hq,hS⟩:=hcut;have HQ3:Hid (qY q3):=hq;have S9:Hid (DB w B sa len cap size ((Pb,jK q3)::K9 w t) wc):=hS;clear hq hS S6 HQ2 HFO;generalize wc=W9 at *;go_wp2_with fail
 refine(bS 20 B sa len cap size _ (by omega) hl S9.out.dr.src).mono ?_;rintro e Wh ⟨c1,rfl,hs,hg⟩;have SWh:Hid (DB w B sa len cap size ((Pb,jK q3)::K9 w t) Wh):=S9.out.draw hs hg;clear hs hg S9;go_upto_if 101 with fail
 go_cut [] (fun wx=>∃q,qY q∧DB w B sa len cap size ((Pb,jK q)::K9 w t) wx)
 case first=>
  cases c1 with
  | false=>
   go_wp2_with fail
   go_meet;exact⟨q3,HQ3.out,SWh.out⟩
  | true=>
   go_wp2_with fail
   refine(bS 2 B sa len cap size _ (by omega) hl SWh.out.dr.src).mono ?_;rintro e Wi ⟨c2,rfl,hs,hg⟩;have SWi:Hid (DB w B sa len cap size ((Pb,jK q3)::K9 w t) Wi):=SWh.out.draw hs hg;clear hs hg SWh;have HHq:aA Wi Pb (jK q3):=SWi.out.at cM;obtain⟨-,-,u2,u3⟩:=HHq.c4;have uf3:=HHq.free (j:=3) (by simp);have uf2:=HHq.free (j:=2) (by simp);clear HHq;have Sk:Hid (DB w B sa len cap size ((Pb,(eP q3.tos q3.id false c2 q3.off q3.ttl q3.VF q3.src q3.dst q3.opts q3.data))::K9 w t) ((sW Wi Pb 3 (.bool c2)).setCell ⟨Pb,2,none⟩ (.bool false))):=((SWi.out.set 3 (.bool c2) rfl HNP.out).set 2 (.bool false) rfl HNP.out);go_upto_region 19 with fail
   generalize ((sW Wi Pb 3 (.bool c2)).setCell ⟨Pb,2,none⟩ (.bool false))=Wk at *;clear SWi u3 u2 uf3 uf2;go_wp2_with fail
   refine(aV 3 B sa len cap size _ (by omega) (by omega) hl Sk.out.dr.src).mono ?_;rintro e Wl ⟨r3,rfl,l3,h3,hs,hg⟩;have Sl:Hid (DB w B sa len cap size ((Pb,(eP q3.tos q3.id false c2 q3.off q3.ttl q3.VF q3.src q3.dst q3.opts q3.data))::K9 w t) Wl):=Sk.out.draw hs hg;clear hs hg Sk;have HHq:aA Wl Pb (eP q3.tos q3.id false c2 q3.off q3.ttl q3.VF q3.src q3.dst q3.opts q3.data):=Sl.out.at cM;have u4:=HHq.cell (j:=4) rfl;have uf4:=HHq.free (j:=4) (by simp);clear HHq;have Sm:Hid _:=(Sl.out.set 4 (iV r3) rfl HNP.out);go_wp2_with fail
   go_meet;exact⟨{ q3 with whole:=false,more:=c2,off:=r3 },HQ3.out,Sm.out⟩
 case rest=>
 obtain⟨q4,hq,hS⟩:=hcut;have HQ4:Hid (qY q4):=hq;have Sn:Hid (DB w B sa len cap size ((Pb,jK q4)::K9 w t) wc):=hS;clear hq hS SWh HQ3;generalize wc=Wn at *;go_wp2_with fail
 refine(bS 20 B sa len cap size _ (by omega) hl Sn.out.dr.src).mono ?_;rintro e Wo ⟨c3,rfl,hs,hg⟩;have SWo:Hid (DB w B sa len cap size ((Pb,jK q4)::K9 w t) Wo):=Sn.out.draw hs hg;clear hs hg Sn;go_upto_if 110 with fail
 go_cut [] (fun wx=>∃q,qY q∧DB w B sa len cap size ((Pb,jK q)::K9 w t) wx)
 case first=>
  cases c3 with
  | false=>
   go_wp2_with fail
   go_meet;exact⟨q4,HQ4.out,SWo.out⟩
  | true=>
   have HHq:aA Wo Pb (jK q4):=SWo.out.at cM;have u9:=HHq.cell (j:=9) rfl;have uf9:=HHq.free (j:=9) (by simp);clear HHq;have Sp:Hid _:=(SWo.out.set 9 (.string ⟨#[1,1,1,0]⟩) rfl HNP.out);go_wp2_with fail
   go_meet;exact⟨{ q4 with opts:=⟨#[1,1,1,0]⟩ },⟨HQ4.out.1,HQ4.out.2.1,by show (ByteArray.mk #[1,1,1,0]).size≤1000;decide,HQ4.out.2.2.2⟩,Sp.out⟩
 case rest=>
 obtain⟨q5,hq,hS⟩:=hcut;have HQ5:Hid (qY q5):=hq;have Sq:Hid (DB w B sa len cap size ((Pb,jK q5)::K9 w t) wc):=hS;clear hq hS SWo HQ4;generalize wc=Wq at *;have HHq:aA Wq Pb (jK q5):=Sq.out.at cM;obtain⟨u0,u1,u2,u3,u4,u5,u6,u7,u8,u9,u10⟩:=HHq.c11;clear HHq;have HHz:aA Wq (w.heap.size+1) (jK pZ):=Sq.out.at eL;obtain⟨z0,z1,z2,z3,z4,z5,z6,z7,z8,z9,z10⟩:=HHz.c11;obtain⟨zf0,zf1,zf2,zf3,zf4,zf5,zf6,zf7,zf8,zf9,zf10⟩:=HHz.f11;have HRR:aA _ (w.heap.size+1) (jK q5):=(((((((((((HHz.set 0 (iV q5.tos)).set 1 (iV q5.id)).set 2 (.bool q5.whole)).set 3 (.bool q5.more)).set 4 (iV q5.off)).set 5 (iV q5.ttl)).set 6 (iV q5.VF)).set 7 (.string q5.src)).set 8 (.string q5.dst)).set 9 (.string q5.opts)).set 10 (.string q5.data));have DD:Dr w B sa len cap size _:=(((((((((((Sq.out.dr.set (w.heap.size+1) 0 (iV q5.tos) (by omega)).set (w.heap.size+1) 1 (iV q5.id) (by omega)).set (w.heap.size+1) 2 (.bool q5.whole) (by omega)).set (w.heap.size+1) 3 (.bool q5.more) (by omega)).set (w.heap.size+1) 4 (iV q5.off) (by omega)).set (w.heap.size+1) 5 (iV q5.ttl) (by omega)).set (w.heap.size+1) 6 (iV q5.VF) (by omega)).set (w.heap.size+1) 7 (.string q5.src) (by omega)).set (w.heap.size+1) 8 (.string q5.dst) (by omega)).set (w.heap.size+1) 9 (.string q5.opts) (by omega)).set (w.heap.size+1) 10 (.string q5.data) (by omega));have HRQ:Hid _:=HRR;have DDQ:Hid _:=DD;clear HHz Sq HRR DD;go_wp2_with fail
 exact VB (aF Tryz.results51 _ _ (w.heap.size+1) (jK q5) _ rfl HRQ.out Tryz.underlying33 rfl (show (Tryz.prog.info? 33).map (·.size)=some 11 by kernel_rfl)) rfl ⟨⟨q5,rfl,HQ5.out⟩,DDQ.out.src,DDQ.out.grown⟩
end Go.Proofs.YtdkepkaflielhaaGreatDoor
