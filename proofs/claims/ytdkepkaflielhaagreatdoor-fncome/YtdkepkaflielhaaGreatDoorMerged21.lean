import Derived.Test.YtdkepkaflielhaaGreatDoorAb
import Derived.Test.YtdkepkaflielhaaGreatDoorMerged18
import Derived.Test.YtdkepkaflielhaaGreatDoorDrawTch
import Derived.Test.YtdkepkaflielhaaGreatDoorDrawData
import Derived.Test.YtdkepkaflielhaaGreatDoorMerged20
import Derived.Test.YtdkepkaflielhaaGreatDoorMerged19
set_option linter.unusedVariables false
set_option linter.unusedSimpArgs false
set_option maxRecDepth 100000
set_option maxHeartbeats 8000000
namespace Go.Proofs.YtdkepkaflielhaaGreatDoor
open Go.RowKit Go.PlainAid
def PkDr (q:P4):Prop:=q.src.size≤1000∧q.dst.size≤1000∧q.opts.size≤1000∧q.data.size≤1000
def FlDr (f:Fl):Prop:=f.src.size≤1000∧f.dst.size≤1000
def XRn9 (n:Int):Value→World→Prop:=fun v _=>∃ r,v=iV r∧0≤r∧r≤n
theorem st_XRn9 {B:Nat} {n:Int}:StableX (EB B) (XRn9 n):=fun _ _ _ h _=>h
def XBo9:Value→World→Prop:=fun v _=>∃ b,v=.bool b
theorem st_XBo9 {B:Nat}:StableX (EB B) XBo9:=fun _ _ _ h _=>h
def XPk9 (s d:ByteArray):Value→World→Prop:=fun v _=>∃ q:P4,v=.agg ((P4V q).toArray)∧q.src=s∧q.dst=d∧q.opts=⟨#[]⟩∧q.data=⟨#[]⟩
theorem st_XPk9 {B:Nat} {s d:ByteArray}:StableX (EB B) (XPk9 s d):=fun _ _ _ h _=>h
theorem flowOk_dr {f:Fl} (h:flowOk f=true):(0≤f.proto∧f.proto≤255)∧f.src.size≤16∧f.dst.size≤16∧(0≤f.sp∧f.sp≤65535)∧(0≤f.dp∧f.dp≤65535):=by
 unfold flowOk at h;simp only [Bool.and_eq_true] at h;obtain ⟨⟨⟨⟨h1,h2⟩,h3⟩,h4⟩,_⟩:=h;obtain ⟨h5,h6⟩:=pairOk_parts h1;unfold protoOk at h2; unfold isW at h3 h4;simp only [Bool.and_eq_true,Bool.or_eq_true,decide_eq_true_iff] at h2 h3 h4;omega
def XNb9 (n B:Nat) (ks:List (Nat × List Value)) (L:List Value):Value→World→Prop:=fun v w=>∃ b,v=.pointer (some ⟨b,0,none⟩)∧b≠B∧n≤b∧(∀ e∈ks,e.1≠b)∧HoldsL w b L
theorem st_XNb9 {n B:Nat} {ks:List (Nat × List Value)} {L:List Value} (hL:0 < L.length):StableX (EB B) (XNb9 n B ks L):=fun v w w' ⟨b,h1,h2,h3,h4,h5⟩ he=>⟨b,h1,h2,h3,h4,h5.grown hL he (by simp; exact h2)⟩
theorem DB.add {w wx:World} {B:Nat} {sa:Option Addr} {len cap:Nat} {size:Int} {ks:List (Nat × List Value)} (h:DB w B sa len cap size ks wx) {b:Nat} {L:List Value} (hb:HoldsL wx b L) (hL:0 < L.length) (hn:w.heap.size≤b):DB w B sa len cap size ((b,L)::ks) wx :=
 ⟨h.dr,fun e he=>(List.mem_cons.1 he).elim (fun x=>by rw [x]; exact hb) (h.k e),fun e he=>(List.mem_cons.1 he).elim (fun x=>by rw [x]; exact hL) (h.z e),fun e he=>(List.mem_cons.1 he).elim (fun x=>by rw [x]; exact hn) (h.n e)⟩
theorem one_convP {w:World} {b cap:Nat} {n:Int} (h0:0≤n) (h1:n≤255) (hc:w.cell? ⟨b,0,none⟩=some (.int .u8 n)) :
  ∃ u:ByteArray,u.size=1∧(convert 22 9 (.slice (some ⟨b,0,none⟩) 1 cap)).run Tryz.prog w=.ok (.string u) w :=
 ⟨⟨[UInt8.ofNat n.toNat].toArray⟩,rfl,run_convert_bytes_back (P:=Tryz.prog) w 22 9 5 ⟨b,0,none⟩ cap [UInt8.ofNat n.toNat] Tryz.underlying22 Tryz.underlying5 Tryz.underlying9 (fun j hj=>by
  match j,hj with
  | 0,_=>simp only [Addr.add,Nat.add_zero,List.getElem_cons_zero]; rw [u8_ofNat _ (by omega) (by omega)]; exact hc)⟩
theorem drawPkt9_any (t:Tc) (B:Nat) (sa:Option Addr) (len cap:Nat) (size:Int) (w:World) (hl:len≤1048576) (ht:TcDr t) (hs:Src w B sa len cap size) :
  Calls Tryz.prog 51 #[.pointer (some ⟨B,0,none⟩),tcC t] w fun e w'=>(∃ q:P4,e=.returned (p4C q)∧PkDr q)∧Src w' B sa len cap size∧w.grownBy w' (some B):=by
 obtain ⟨proto,inside,addr,port,peer,peerPort,flags⟩:=t;have ha1:addr.size≤1000:=ht.1;have hp1:peer.size≤1000:=ht.2.1;clear ht;have hBW:B < w.heap.size:=(Dr.start hs).hB;unfold tcC;dsimp only;have e0:HoldsL ((aW w (TcR proto inside addr port peer peerPort flags) 89).alloc (.cells (P4R 0 0 false false 0 0 0 ⟨#[]⟩ ⟨#[]⟩ ⟨#[]⟩ ⟨#[]⟩).toArray 33)) (w.heap.size) (TcR proto inside addr port peer peerPort flags):=by
  have h:=HoldsL.new w (TcR proto inside addr port peer peerPort flags) 89;try simp only [World.size_alloc] at h
  exact (h.alloc _)
 have e1:HoldsL ((aW w (TcR proto inside addr port peer peerPort flags) 89).alloc (.cells (P4R 0 0 false false 0 0 0 ⟨#[]⟩ ⟨#[]⟩ ⟨#[]⟩ ⟨#[]⟩).toArray 33)) (w.heap.size+1) (P4R 0 0 false false 0 0 0 ⟨#[]⟩ ⟨#[]⟩ ⟨#[]⟩ ⟨#[]⟩):=by
  have h:=HoldsL.new (w.alloc (.cells (TcR proto inside addr port peer peerPort flags).toArray 89)) (P4R 0 0 false false 0 0 0 ⟨#[]⟩ ⟨#[]⟩ ⟨#[]⟩ ⟨#[]⟩) 33;try simp only [World.size_alloc] at h
  exact h
 have S0:Hid (DB w B sa len cap size [(w.heap.size,(TcR proto inside addr port peer peerPort flags)),(w.heap.size+1,(P4R 0 0 false false 0 0 0 ⟨#[]⟩ ⟨#[]⟩ ⟨#[]⟩ ⟨#[]⟩))] ((aW w (TcR proto inside addr port peer peerPort flags) 89).alloc (.cells (P4R 0 0 false false 0 0 0 ⟨#[]⟩ ⟨#[]⟩ ⟨#[]⟩ ⟨#[]⟩).toArray 33))):=by
  refine ⟨(((Dr.start hs).alloc _).alloc _),fun e he=>?_,fun e he=>?_,fun e he=>?_⟩
  ·simp only [List.mem_cons,List.not_mem_nil,or_false] at he;rcases he with rfl | rfl
   ·exact e0
   ·exact e1
  ·simp only [List.mem_cons,List.not_mem_nil,or_false] at he;rcases he with rfl | rfl<;>simp
  ·simp only [List.mem_cons,List.not_mem_nil,or_false] at he;rcases he with rfl | rfl<;>simp
 clear e0 e1 hs;have hun:undef=Value.tuple #[]:=rfl;go_enter Tryz.func51,Tryz.ntmps51
 go_upto_region 1 with fail
 generalize ((aW w (TcR proto inside addr port peer peerPort flags) 89).alloc (.cells (P4R 0 0 false false 0 0 0 ⟨#[]⟩ ⟨#[]⟩ ⟨#[]⟩ ⟨#[]⟩).toArray 33))=W0 at *;go_cut [5] (fun v wx=>∃ g q,v=.pointer (some ⟨g,0,none⟩)∧PkDr q∧w.heap.size≤g∧(∀ e∈([(w.heap.size,(TcR proto inside addr port peer peerPort flags)),(w.heap.size+1,(P4R 0 0 false false 0 0 0 ⟨#[]⟩ ⟨#[]⟩ ⟨#[]⟩ ⟨#[]⟩))]:List (Nat × List Value)),e.1≠g)∧DB w B sa len cap size [(g,(P4V q)),(w.heap.size,(TcR proto inside addr port peer peerPort flags)),(w.heap.size+1,(P4R 0 0 false false 0 0 0 ⟨#[]⟩ ⟨#[]⟩ ⟨#[]⟩ ⟨#[]⟩))] wx)
 case first =>
  rename_i J K2 hJ hK2;clear hun;refine wp_region_growXV (EB B) (fun wx=>DB w B sa len cap size [(w.heap.size,(TcR proto inside addr port peer peerPort flags)),(w.heap.size+1,(P4R 0 0 false false 0 0 0 ⟨#[]⟩ ⟨#[]⟩ ⟨#[]⟩ ⟨#[]⟩))] wx) [9,10,11,12,13,14,15,16,17,18,19,20,21,22,23,24,5] (by kernel_rfl) (by kernel_rfl) (S0.out.below (Below.refl _ _).drew) ?_;refine XChV.val (n:=0) (fun v=>[IsV v]) (fun _=>rfl) rfl ?_;apply Exists.intro;refine And.intro ?_ ?_
  ·intro K' a wy ho hd hI hK;rw [wN rfl];have o0:=ho 0 (by decide);simp [slot] at o0;clear hd ho;go_simp;try go_bits
   exact hK _ _ rfl (EB.of (Below.refl _ _)) hI
  refine XChV.rel (n:=1) (XRn9 255) (st_XRn9) [_,XRn9 255] rfl rfl ?_ ?_
  ·intro K' a wy ho hd hI hK;rw [wN rfl];have q0:=hd ⟨0,.data⟩ (by simp) rfl;simp [rAt,IsV,slot] at q0;clear hd ho;go_simp;refine (drawN_more 256 B sa len cap size wy (by omega) (by omega) hl hI.dr.src).mono ?_;rintro e wz ⟨r,rfl,h0,h1,hsz,hgz⟩;exact hK _ _ ⟨r,rfl,h0,by omega⟩ hgz (hI.draw hsz hgz)
  refine XChV.val (n:=2) (fun v=>[_,_,IsV v]) (fun _=>rfl) rfl ?_;apply Exists.intro;refine And.intro ?_ ?_
  ·intro K' a wy ho hd hI hK;rw [wN rfl];have o0:=ho 0 (by decide);simp [slot] at o0;clear hd ho;go_simp;try go_bits
   exact hK _ _ rfl (EB.of (Below.refl _ _)) hI
  refine XChV.rel (n:=3) (XRn9 8) (st_XRn9) [_,_,_,XRn9 8] rfl rfl ?_ ?_
  ·intro K' a wy ho hd hI hK;rw [wN rfl];have q2:=hd ⟨2,.data⟩ (by simp) rfl;simp [rAt,IsV,slot] at q2;clear hd ho;go_simp;refine (drawN_more 9 B sa len cap size wy (by omega) (by omega) hl hI.dr.src).mono ?_;rintro e wz ⟨r,rfl,h0,h1,hsz,hgz⟩;exact hK _ _ ⟨r,rfl,h0,by omega⟩ hgz (hI.draw hsz hgz)
  refine XChV.val (n:=4) (fun v=>[_,_,_,_,IsV v]) (fun _=>rfl) rfl ?_;apply Exists.intro;refine And.intro ?_ ?_
  ·intro K' a wy ho hd hI hK;rw [wN rfl];have o0:=ho 0 (by decide);simp [slot] at o0;clear hd ho;go_simp;try go_bits
   exact hK _ _ rfl (EB.of (Below.refl _ _)) hI
  refine XChV.rel (n:=5) (XBo9) (st_XBo9) [_,_,_,_,_,XBo9] rfl rfl ?_ ?_
  ·intro K' a wy ho hd hI hK;rw [wN rfl];have q4:=hd ⟨4,.data⟩ (by simp) rfl;simp [rAt,IsV,slot] at q4;clear hd ho;go_simp;refine (drawOne_any 2 B sa len cap size wy (by omega) hl hI.dr.src).mono ?_;rintro e wz ⟨r,rfl,hsz,hgz⟩;exact hK _ _ ⟨r,rfl⟩ hgz (hI.draw hsz hgz)
  refine XChV.val (n:=6) (fun v=>[_,_,_,_,_,_,IsV v]) (fun _=>rfl) rfl ?_;apply Exists.intro;refine And.intro ?_ ?_
  ·intro K' a wy ho hd hI hK;rw [wN rfl];have o0:=ho 0 (by decide);simp [slot] at o0;clear hd ho;go_simp;try go_bits
   exact hK _ _ rfl (EB.of (Below.refl _ _)) hI
  refine XChV.rel (n:=7) (XRn9 59) (st_XRn9) [_,_,_,_,_,_,_,XRn9 59] rfl rfl ?_ ?_
  ·intro K' a wy ho hd hI hK;rw [wN rfl];have q6:=hd ⟨6,.data⟩ (by simp) rfl;simp [rAt,IsV,slot] at q6;clear hd ho;go_simp;refine (drawN_more 60 B sa len cap size wy (by omega) (by omega) hl hI.dr.src).mono ?_;rintro e wz ⟨r,rfl,h0,h1,hsz,hgz⟩;exact hK _ _ ⟨r,rfl,h0,by omega⟩ hgz (hI.draw hsz hgz)
  refine XChV.rel (n:=8) (XRn9 60) (st_XRn9) [_,_,_,_,_,_,_,_,XRn9 60] rfl rfl ?_ ?_
  ·intro K' a wy ho hd hI hK;rw [wN rfl];obtain ⟨k7,e7,l7,u7⟩ : XRn9 59 (slot a 16) wy:=hd ⟨7,.data⟩ (by simp) rfl;simp [slot] at e7;clear hd ho;go_simp;try go_bits
   exact hK _ _ ⟨_,rfl,by omega,by omega⟩ (EB.of (Below.refl _ _)) hI
  refine XChV.val (n:=9) (fun v=>[_,_,_,_,_,_,_,_,_,IsV v]) (fun _=>rfl) rfl ?_;apply Exists.intro;refine And.intro ?_ ?_
  ·intro K' a wy ho hd hI hK;rw [wN rfl];have o3:=ho 3 (by decide);simp [slot] at o3;clear hd ho;go_simp;try go_bits
   exact hK _ _ rfl (EB.of (Below.refl _ _)) hI
  refine XChV.val (n:=10) (fun v=>[_,_,_,_,_,_,_,_,_,_,IsV v]) (fun _=>rfl) rfl ?_;apply Exists.intro;refine And.intro ?_ ?_
  ·intro K' a wy ho hd hI hK;rw [wN rfl];have q9:=hd ⟨9,.data⟩ (by simp) rfl;simp [rAt,IsV,slot] at q9;clear hd ho;have y0:wy.cell? ⟨w.heap.size,0,none⟩=some (iV proto):=(show HoldsL wy w.heap.size (TcR proto inside addr port peer peerPort flags) from hI.at mE0).cell rfl;have y2:wy.cell? ⟨w.heap.size,2,none⟩=some (.string addr):=(show HoldsL wy w.heap.size (TcR proto inside addr port peer peerPort flags) from hI.at mE0).cell rfl;have y4:wy.cell? ⟨w.heap.size,4,none⟩=some (.string peer):=(show HoldsL wy w.heap.size (TcR proto inside addr port peer peerPort flags) from hI.at mE0).cell rfl;go_simp;try go_bits
   exact hK _ _ rfl (EB.of (Below.refl _ _)) hI
  refine XChV.val (n:=11) (fun v=>[_,_,_,_,_,_,_,_,_,_,_,IsV v]) (fun _=>rfl) rfl ?_;apply Exists.intro;refine And.intro ?_ ?_
  ·intro K' a wy ho hd hI hK;rw [wN rfl];have o3:=ho 3 (by decide);simp [slot] at o3;clear hd ho;go_simp;try go_bits
   exact hK _ _ rfl (EB.of (Below.refl _ _)) hI
  refine XChV.val (n:=12) (fun v=>[_,_,_,_,_,_,_,_,_,_,_,_,IsV v]) (fun _=>rfl) rfl ?_;apply Exists.intro;refine And.intro ?_ ?_
  ·intro K' a wy ho hd hI hK;rw [wN rfl];have q11:=hd ⟨11,.data⟩ (by simp) rfl;simp [rAt,IsV,slot] at q11;clear hd ho;have y0:wy.cell? ⟨w.heap.size,0,none⟩=some (iV proto):=(show HoldsL wy w.heap.size (TcR proto inside addr port peer peerPort flags) from hI.at mE0).cell rfl;have y2:wy.cell? ⟨w.heap.size,2,none⟩=some (.string addr):=(show HoldsL wy w.heap.size (TcR proto inside addr port peer peerPort flags) from hI.at mE0).cell rfl;have y4:wy.cell? ⟨w.heap.size,4,none⟩=some (.string peer):=(show HoldsL wy w.heap.size (TcR proto inside addr port peer peerPort flags) from hI.at mE0).cell rfl;go_simp;try go_bits
   exact hK _ _ rfl (EB.of (Below.refl _ _)) hI
  refine XChV.val (n:=13) (fun v=>[_,_,_,_,_,_,_,_,_,_,_,_,_,IsV v]) (fun _=>rfl) rfl ?_;apply Exists.intro;refine And.intro ?_ ?_
  ·intro K' a wy ho hd hI hK;rw [wN rfl];have o3:=ho 3 (by decide);simp [slot] at o3;clear hd ho;go_simp;try go_bits
   exact hK _ _ rfl (EB.of (Below.refl _ _)) hI
  refine XChV.val (n:=14) (fun v=>[_,_,_,_,_,_,_,_,_,_,_,_,_,_,IsV v]) (fun _=>rfl) rfl ?_;apply Exists.intro;refine And.intro ?_ ?_
  ·intro K' a wy ho hd hI hK;rw [wN rfl];have q13:=hd ⟨13,.data⟩ (by simp) rfl;simp [rAt,IsV,slot] at q13;clear hd ho;have y0:wy.cell? ⟨w.heap.size,0,none⟩=some (iV proto):=(show HoldsL wy w.heap.size (TcR proto inside addr port peer peerPort flags) from hI.at mE0).cell rfl;have y2:wy.cell? ⟨w.heap.size,2,none⟩=some (.string addr):=(show HoldsL wy w.heap.size (TcR proto inside addr port peer peerPort flags) from hI.at mE0).cell rfl;have y4:wy.cell? ⟨w.heap.size,4,none⟩=some (.string peer):=(show HoldsL wy w.heap.size (TcR proto inside addr port peer peerPort flags) from hI.at mE0).cell rfl;go_simp;try go_bits
   exact hK _ _ rfl (EB.of (Below.refl _ _)) hI
  refine XChV.rel (n:=15) (XPk9 addr peer) (st_XPk9) [_,_,_,_,_,_,_,_,_,_,_,_,_,_,_,XPk9 addr peer] rfl rfl ?_ ?_
  ·intro K' a wy ho hd hI hK;rw [wN rfl];obtain ⟨k1,e1,l1,u1⟩ : XRn9 255 (slot a 10) wy:=hd ⟨1,.data⟩ (by simp) rfl;simp [slot] at e1;obtain ⟨k3,e3,l3,u3⟩ : XRn9 8 (slot a 12) wy:=hd ⟨3,.data⟩ (by simp) rfl;simp [slot] at e3;obtain ⟨k5,e5⟩ : XBo9 (slot a 14) wy:=hd ⟨5,.data⟩ (by simp) rfl;simp [slot] at e5;obtain ⟨k8,e8,l8,u8⟩ : XRn9 60 (slot a 17) wy:=hd ⟨8,.data⟩ (by simp) rfl;simp [slot] at e8;have q10:=hd ⟨10,.data⟩ (by simp) rfl;have q12:=hd ⟨12,.data⟩ (by simp) rfl;have q14:=hd ⟨14,.data⟩ (by simp) rfl;simp [rAt,IsV,slot] at q10 q12 q14;clear hd ho;go_simp;exact hK _ _ ⟨⟨k1,k3,k5,false,0,k8,proto,addr,peer,⟨#[]⟩,⟨#[]⟩⟩,rfl,rfl,rfl,rfl,rfl⟩ (EB.of (Below.refl _ _)) hI
  refine XChV.rel (n:=16) (XNb9 w.heap.size B [(w.heap.size,(TcR proto inside addr port peer peerPort flags)),(w.heap.size+1,(P4R 0 0 false false 0 0 0 ⟨#[]⟩ ⟨#[]⟩ ⟨#[]⟩ ⟨#[]⟩))] (P4R 0 0 false false 0 0 0 ⟨#[]⟩ ⟨#[]⟩ ⟨#[]⟩ ⟨#[]⟩)) (st_XNb9 (by simp)) [_,_,_,_,_,_,_,_,_,_,_,_,_,_,_,_,XNb9 w.heap.size B [(w.heap.size,(TcR proto inside addr port peer peerPort flags)),(w.heap.size+1,(P4R 0 0 false false 0 0 0 ⟨#[]⟩ ⟨#[]⟩ ⟨#[]⟩ ⟨#[]⟩))] (P4R 0 0 false false 0 0 0 ⟨#[]⟩ ⟨#[]⟩ ⟨#[]⟩ ⟨#[]⟩)] rfl rfl ?_ ?_
  ·intro K' a wy ho hd hI hK;rw [wN rfl];clear hd ho;go_simp;exact hK _ _ ⟨wy.heap.size,rfl,by have:=hI.dr.le; omega,hI.dr.le,fun e he=>Nat.ne_of_lt (hI.lts e he),HoldsL.new wy (P4R 0 0 false false 0 0 0 ⟨#[]⟩ ⟨#[]⟩ ⟨#[]⟩ ⟨#[]⟩) _⟩ (EB.of ((Below.refl _ _).alloc (Nat.le_refl _) _)) (hI.below ((Below.refl _ _).alloc (Nat.le_refl _) _))
  intro X wz hR hI;obtain ⟨x0,x1,x2,x3,x4,x5,x6,x7,x8,x9,x10,x11,x12,x13,x14,x15,x16,-⟩:=hR;have hq:=x1;clear hq;have hq:=x3;clear hq;have hq:=x7;clear hq;have hq:=x5;clear hq;have hq:=x8;clear hq;obtain ⟨k15,e15,s15,d15,o15,t15⟩:=x15;obtain ⟨b16,e16,n16,g16,h16,z16⟩:=x16;simp only [IsV] at x0 x2 x4 x6 x9 x10 x11 x12 x13 x14;simp only [putsFrom,x0,putsFrom,x2,putsFrom,x4,putsFrom,x6,putsFrom,putsFrom,x9,x10,x11,x12,x13,x14,e15,e16];clear x0 x2 x4 x6 x9 x10 x11 x12 x13 x14;have z0:=z16.cell (j:=0) rfl;have zf0:=z16.free (j:=0) (by simp);have z1:=z16.cell (j:=1) rfl;have zf1:=z16.free (j:=1) (by simp);have z2:=z16.cell (j:=2) rfl;have zf2:=z16.free (j:=2) (by simp);have z3:=z16.cell (j:=3) rfl;have zf3:=z16.free (j:=3) (by simp);have z4:=z16.cell (j:=4) rfl;have zf4:=z16.free (j:=4) (by simp);have z5:=z16.cell (j:=5) rfl;have zf5:=z16.free (j:=5) (by simp);have z6:=z16.cell (j:=6) rfl;have zf6:=z16.free (j:=6) (by simp);have z7:=z16.cell (j:=7) rfl;have zf7:=z16.free (j:=7) (by simp);have z8:=z16.cell (j:=8) rfl;have zf8:=z16.free (j:=8) (by simp);have z9:=z16.cell (j:=9) rfl;have zf9:=z16.free (j:=9) (by simp);have z10:=z16.cell (j:=10) rfl;have zf10:=z16.free (j:=10) (by simp);have hD0:=hI.add z16 (by simp) g16;have hD1:=hD0.set (vs':=(P4R k15.tos 0 false false 0 0 0 ⟨#[]⟩ ⟨#[]⟩ ⟨#[]⟩ ⟨#[]⟩)) 0 (iV k15.tos) rfl h16;have hD2:=hD1.set (vs':=(P4R k15.tos k15.id false false 0 0 0 ⟨#[]⟩ ⟨#[]⟩ ⟨#[]⟩ ⟨#[]⟩)) 1 (iV k15.id) rfl h16;have hD3:=hD2.set (vs':=(P4R k15.tos k15.id k15.whole false 0 0 0 ⟨#[]⟩ ⟨#[]⟩ ⟨#[]⟩ ⟨#[]⟩)) 2 (.bool k15.whole) rfl h16;have hD4:=hD3.set (vs':=(P4R k15.tos k15.id k15.whole k15.more 0 0 0 ⟨#[]⟩ ⟨#[]⟩ ⟨#[]⟩ ⟨#[]⟩)) 3 (.bool k15.more) rfl h16;have hD5:=hD4.set (vs':=(P4R k15.tos k15.id k15.whole k15.more k15.off 0 0 ⟨#[]⟩ ⟨#[]⟩ ⟨#[]⟩ ⟨#[]⟩)) 4 (iV k15.off) rfl h16;have hD6:=hD5.set (vs':=(P4R k15.tos k15.id k15.whole k15.more k15.off k15.ttl 0 ⟨#[]⟩ ⟨#[]⟩ ⟨#[]⟩ ⟨#[]⟩)) 5 (iV k15.ttl) rfl h16;have hD7:=hD6.set (vs':=(P4R k15.tos k15.id k15.whole k15.more k15.off k15.ttl k15.proto ⟨#[]⟩ ⟨#[]⟩ ⟨#[]⟩ ⟨#[]⟩)) 6 (iV k15.proto) rfl h16;have hD8:=hD7.set (vs':=(P4R k15.tos k15.id k15.whole k15.more k15.off k15.ttl k15.proto k15.src ⟨#[]⟩ ⟨#[]⟩ ⟨#[]⟩)) 7 (.string k15.src) rfl h16;have hD9:=hD8.set (vs':=(P4R k15.tos k15.id k15.whole k15.more k15.off k15.ttl k15.proto k15.src k15.dst ⟨#[]⟩ ⟨#[]⟩)) 8 (.string k15.dst) rfl h16;have hD10:=hD9.set (vs':=(P4R k15.tos k15.id k15.whole k15.more k15.off k15.ttl k15.proto k15.src k15.dst k15.opts ⟨#[]⟩)) 9 (.string k15.opts) rfl h16;have hD11:=hD10.set (vs':=(P4V k15)) 10 (.string k15.data) rfl h16
  have HD:Hid (DB w B sa len cap size [(b16,(P4V k15)),(w.heap.size,(TcR proto inside addr port peer peerPort flags)),(w.heap.size+1,(P4R 0 0 false false 0 0 0 ⟨#[]⟩ ⟨#[]⟩ ⟨#[]⟩ ⟨#[]⟩))] ((sW (sW (sW (sW (sW (sW (sW (sW (sW (sW wz b16 0 (iV k15.tos)) b16 1 (iV k15.id)) b16 2 (.bool k15.whole)) b16 3 (.bool k15.more)) b16 4 (iV k15.off)) b16 5 (iV k15.ttl)) b16 6 (iV k15.proto)) b16 7 (.string k15.src)) b16 8 (.string k15.dst)) b16 9 (.string k15.opts)).setCell ⟨b16,10,none⟩ (.string k15.data))):=hD11;have hpk:PkDr k15:=⟨by rw [s15]; exact ha1,by rw [d15]; exact hp1,by rw [o15]; decide,by rw [t15]; decide⟩;clear s15 d15 o15 t15 hD1 hD2 hD3 hD4 hD5 hD6 hD7 hD8 hD9 hD10 hD11 hD0 z16 hI;intro K5 hK5;go_simp;refine hK5 _ _ ?_;show Exit.then _ _ _ _ _;refine hK2 _ _ (hJ _ _ ?_);(repeat apply Exists.intro)
  exact ⟨⟨b16,k15,rfl,hpk,g16,h16,HD.out⟩,rfl⟩
 case rest =>
 obtain ⟨Pb,q0,rfl,hq,hwp,hnp,hS⟩:=hcut;have HQ0:Hid (PkDr q0):=hq;have HNP:Hid (∀ e∈([(w.heap.size,(TcR proto inside addr port peer peerPort flags)),(w.heap.size+1,(P4R 0 0 false false 0 0 0 ⟨#[]⟩ ⟨#[]⟩ ⟨#[]⟩ ⟨#[]⟩))]:List (Nat × List Value)),e.1≠Pb):=hnp;have S1:Hid (DB w B sa len cap size [(Pb,(P4V q0)),(w.heap.size,(TcR proto inside addr port peer peerPort flags)),(w.heap.size+1,(P4R 0 0 false false 0 0 0 ⟨#[]⟩ ⟨#[]⟩ ⟨#[]⟩ ⟨#[]⟩))] wc):=hS;clear hq hnp hS S0;generalize wc=W1 at *;have y0:W1.cell? ⟨w.heap.size,0,none⟩=some (iV proto):=(show HoldsL W1 w.heap.size (TcR proto inside addr port peer peerPort flags) from S1.out.at mE1).cell rfl;have y2:W1.cell? ⟨w.heap.size,2,none⟩=some (.string addr):=(show HoldsL W1 w.heap.size (TcR proto inside addr port peer peerPort flags) from S1.out.at mE1).cell rfl;have y3:W1.cell? ⟨w.heap.size,3,none⟩=some (iV port):=(show HoldsL W1 w.heap.size (TcR proto inside addr port peer peerPort flags) from S1.out.at mE1).cell rfl;have y4:W1.cell? ⟨w.heap.size,4,none⟩=some (.string peer):=(show HoldsL W1 w.heap.size (TcR proto inside addr port peer peerPort flags) from S1.out.at mE1).cell rfl;have y5:W1.cell? ⟨w.heap.size,5,none⟩=some (iV peerPort):=(show HoldsL W1 w.heap.size (TcR proto inside addr port peer peerPort flags) from S1.out.at mE1).cell rfl;go_upto_region 3 with fail
 have hPF:Pb < W1.heap.size:=S1.out.lts (_,_) mE0;have hlt0:=S1.out.lts;have S2':Hid _:=S1.out.push (FlR proto addr peer port peerPort) (by simp) 43;have HNF:Hid (∀ l,∀ e∈((Pb,l)::[(w.heap.size,(TcR proto inside addr port peer peerPort flags)),(w.heap.size+1,(P4R 0 0 false false 0 0 0 ⟨#[]⟩ ⟨#[]⟩ ⟨#[]⟩ ⟨#[]⟩))]:List (Nat × List Value)),e.1≠W1.heap.size):=fun l e he=>(List.mem_cons.1 he).elim (fun h=>by rw [h]; show Pb≠_; omega) (fun h=>Nat.ne_of_lt (hlt0 e (.tail _ h)))
 clear hlt0 S1 y0 y2 y3 y4 y5;generalize (W1.alloc (.cells (FlR proto addr peer port peerPort).toArray 43))=W2 at *;generalize W1.heap.size=Fb at *;have hFP:Fb≠Pb:=by omega
 have HNPF:Hid (∀ l,∀ e∈((Fb,l)::[(w.heap.size,(TcR proto inside addr port peer peerPort flags)),(w.heap.size+1,(P4R 0 0 false false 0 0 0 ⟨#[]⟩ ⟨#[]⟩ ⟨#[]⟩ ⟨#[]⟩))]:List (Nat × List Value)),e.1≠Pb):=fun l e he=>(List.mem_cons.1 he).elim (fun h=>by rw [h]; exact hFP) (fun h=>HNP.out e h)
 obtain ⟨f0,hf0⟩ : ∃ f:Fl,f=⟨proto,addr,peer,port,peerPort⟩:=⟨_,rfl⟩;have HF0:Hid (FlDr f0):=by unfold Hid; rw [hf0]; exact ⟨ha1,hp1⟩
 have S2:Hid (DB w B sa len cap size [(Fb,(FlV f0)),(Pb,(P4V q0)),(w.heap.size,(TcR proto inside addr port peer peerPort flags)),(w.heap.size+1,(P4R 0 0 false false 0 0 0 ⟨#[]⟩ ⟨#[]⟩ ⟨#[]⟩ ⟨#[]⟩))] W2):=by unfold Hid; rw [hf0]; exact S2'.out
 clear hf0 S2';have y1:W2.cell? ⟨w.heap.size,1,none⟩=some (.bool inside):=(show HoldsL W2 w.heap.size (TcR proto inside addr port peer peerPort flags) from S2.out.at mE2).cell rfl;obtain ⟨ins,hin⟩ : ∃ b,b=inside:=⟨_,rfl⟩;rw [← hin] at y1;clear hin;go_upto_if 38 with fail
 go_cut [] (fun wx=>∃ q f,PkDr q∧FlDr f∧DB w B sa len cap size [(Fb,(FlV f)),(Pb,(P4V q)),(w.heap.size,(TcR proto inside addr port peer peerPort flags)),(w.heap.size+1,(P4R 0 0 false false 0 0 0 ⟨#[]⟩ ⟨#[]⟩ ⟨#[]⟩ ⟨#[]⟩))] wx)
 case first =>
  cases ins with
  | true =>
   go_wp2_with fail
   go_meet;exact ⟨q0,f0,HQ0.out,HF0.out,S2.out⟩
  | false =>
   clear y1;have y0:W2.cell? ⟨w.heap.size,0,none⟩=some (iV proto):=(show HoldsL W2 w.heap.size (TcR proto inside addr port peer peerPort flags) from S2.out.at mE2).cell rfl;have y2:W2.cell? ⟨w.heap.size,2,none⟩=some (.string addr):=(show HoldsL W2 w.heap.size (TcR proto inside addr port peer peerPort flags) from S2.out.at mE2).cell rfl;have y3:W2.cell? ⟨w.heap.size,3,none⟩=some (iV port):=(show HoldsL W2 w.heap.size (TcR proto inside addr port peer peerPort flags) from S2.out.at mE2).cell rfl;have y4:W2.cell? ⟨w.heap.size,4,none⟩=some (.string peer):=(show HoldsL W2 w.heap.size (TcR proto inside addr port peer peerPort flags) from S2.out.at mE2).cell rfl;have y5:W2.cell? ⟨w.heap.size,5,none⟩=some (iV peerPort):=(show HoldsL W2 w.heap.size (TcR proto inside addr port peer peerPort flags) from S2.out.at mE2).cell rfl;have HHf:HoldsL W2 Fb (FlV f0):=S2.out.at mE0;have x0:=HHf.cell (j:=0) rfl;have x1:=HHf.cell (j:=1) rfl;have x2:=HHf.cell (j:=2) rfl;have x3:=HHf.cell (j:=3) rfl;have x4:=HHf.cell (j:=4) rfl;have xf0:=HHf.free (j:=0) (by simp);have xf1:=HHf.free (j:=1) (by simp);have xf2:=HHf.free (j:=2) (by simp);have xf3:=HHf.free (j:=3) (by simp);have xf4:=HHf.free (j:=4) (by simp);clear HHf;have HHq:HoldsL W2 Pb (P4V q0):=S2.out.at mE1;have u7:=HHq.cell (j:=7) rfl;have u8:=HHq.cell (j:=8) rfl;have uf7:=HHq.free (j:=7) (by simp);have uf8:=HHq.free (j:=8) (by simp);clear HHq;have S3:Hid _:=(((((((((((S2.out.set 0 (iV proto) rfl (HNF.out _)).set 1 (.string peer) rfl (HNF.out _)).set 2 (.string addr) rfl (HNF.out _)).set 3 (iV peerPort) rfl (HNF.out _)).set 4 (iV port) rfl (HNF.out _)).swap).set 7 (.string peer) rfl (HNPF.out _)).swap).swap).set 8 (.string addr) rfl (HNPF.out _)).swap);go_wp2_with fail
   go_meet;exact ⟨{ q0 with src:=peer,dst:=addr },⟨proto,peer,addr,peerPort,port⟩,⟨hp1,ha1,HQ0.out.2.2⟩,⟨hp1,ha1⟩,S3.out⟩
 case rest =>
 obtain ⟨q1,f1,hq,hf,hS⟩:=hcut;have HQ1:Hid (PkDr q1):=hq;have HF1:Hid (FlDr f1):=hf;have S3:Hid (DB w B sa len cap size [(Fb,(FlV f1)),(Pb,(P4V q1)),(w.heap.size,(TcR proto inside addr port peer peerPort flags)),(w.heap.size+1,(P4R 0 0 false false 0 0 0 ⟨#[]⟩ ⟨#[]⟩ ⟨#[]⟩ ⟨#[]⟩))] wc):=hS;clear hq hf hS S2 HQ0 HF0 y1;generalize wc=W3 at *;have HHf:HoldsL W3 Fb (FlV f1):=S3.out.at mE0;have x0:=HHf.cell (j:=0) rfl;clear HHf;go_upto_if 58 with fail
 go_cut [] (fun wx=>∃ q f,PkDr q∧FlDr f∧DB w B sa len cap size [(Fb,(FlV f)),(Pb,(P4V q)),(w.heap.size,(TcR proto inside addr port peer peerPort flags)),(w.heap.size+1,(P4R 0 0 false false 0 0 0 ⟨#[]⟩ ⟨#[]⟩ ⟨#[]⟩ ⟨#[]⟩))] wx)
 case first =>
  by_cases hi:f1.proto=1
  case neg =>
   have hb:(f1.proto==1)=false:=by simp [hi]
   go_wp2_with fail
   go_meet;exact ⟨q1,f1,HQ1.out,HF1.out,S3.out⟩
  have hb:(f1.proto==1)=true:=by simp [hi]
  have y3:W3.cell? ⟨w.heap.size,3,none⟩=some (iV port):=(show HoldsL W3 w.heap.size (TcR proto inside addr port peer peerPort flags) from S3.out.at mE2).cell rfl;have HHf:HoldsL W3 Fb (FlV f1):=S3.out.at mE0;have x3:=HHf.cell (j:=3) rfl;have x4:=HHf.cell (j:=4) rfl;have xf3:=HHf.free (j:=3) (by simp);have xf4:=HHf.free (j:=4) (by simp);clear HHf;have S4:Hid _:=((S3.out.set 4 (iV port) rfl (HNF.out _)).set 3 (iV port) rfl (HNF.out _));go_wp2_with fail
  go_meet;exact ⟨q1,{ f1 with sp:=port,dp:=port },HQ1.out,HF1.out,S4.out⟩
 case rest =>
 obtain ⟨q2,f2,hq,hf,hS⟩:=hcut;have HQ2:Hid (PkDr q2):=hq;have HF2:Hid (FlDr f2):=hf;have S5:Hid (DB w B sa len cap size [(Fb,(FlV f2)),(Pb,(P4V q2)),(w.heap.size,(TcR proto inside addr port peer peerPort flags)),(w.heap.size+1,(P4R 0 0 false false 0 0 0 ⟨#[]⟩ ⟨#[]⟩ ⟨#[]⟩ ⟨#[]⟩))] wc):=hS;clear hq hf hS S3 HQ1 HF1 x0;generalize wc=W5 at *;have HHf:HoldsL W5 Fb (FlV f2):=S5.out.at mE0;have x0:=HHf.cell (j:=0) rfl;have x1:=HHf.cell (j:=1) rfl;have x2:=HHf.cell (j:=2) rfl;have x3:=HHf.cell (j:=3) rfl;have x4:=HHf.cell (j:=4) rfl;clear HHf;have HFR:Hid (∀ W,Cb 43 #[.agg (FlV f2).toArray] W (.bool (flowOk f2))):=fun W=>specFlowRight_any f2 W (by have:=HF2.out.1; omega) (by have:=HF2.out.2; omega)
 have HFO:Hid (flowOk f2=true→(0≤f2.proto∧f2.proto≤255)∧f2.src.size≤16∧f2.dst.size≤16∧(0≤f2.sp∧f2.sp≤65535)∧(0≤f2.dp∧f2.dp≤65535)):=flowOk_dr;generalize flowOk f2=fo at *;go_wp2_with fail
 refine (HFR.out _).mono ?_;rintro e W6 ⟨rfl,h6⟩;have S6:Hid (DB w B sa len cap size [(Fb,(FlV f2)),(Pb,(P4V q2)),(w.heap.size,(TcR proto inside addr port peer peerPort flags)),(w.heap.size+1,(P4R 0 0 false false 0 0 0 ⟨#[]⟩ ⟨#[]⟩ ⟨#[]⟩ ⟨#[]⟩))] W6):=S5.out.below h6;clear h6 HFR S5 x0 x1 x2 x3 x4;go_upto_if 66 with fail
 go_cut [] (fun wx=>∃ q,PkDr q∧DB w B sa len cap size [(Pb,(P4V q)),(w.heap.size,(TcR proto inside addr port peer peerPort flags)),(w.heap.size+1,(P4R 0 0 false false 0 0 0 ⟨#[]⟩ ⟨#[]⟩ ⟨#[]⟩ ⟨#[]⟩))] wx)
 case first =>
  cases fo with
  | false =>
   go_wp2_with fail
   go_meet;exact ⟨q2,HQ2.out,S6.out.tail⟩
  | true =>
   obtain ⟨hpr,hss,hds,hsp,hdp⟩:=HFO.out rfl;clear HFO;have HHf:HoldsL W6 Fb (FlV f2):=S6.out.at mE0;have x0:=HHf.cell (j:=0) rfl;have x1:=HHf.cell (j:=1) rfl;have x2:=HHf.cell (j:=2) rfl;have x3:=HHf.cell (j:=3) rfl;have x4:=HHf.cell (j:=4) rfl;clear HHf;go_wp2_with fail
   refine (drawData_min f2.proto f2.src f2.dst f2.sp f2.dp B sa len cap size _ hpr hss hds hsp hdp hl S6.out.dr.src).mono ?_;rintro e W7 ⟨⟨dt,rfl,hd1,hd2⟩,hs,hg⟩;have S7:Hid (DB w B sa len cap size [(Fb,(FlV f2)),(Pb,(P4V q2)),(w.heap.size,(TcR proto inside addr port peer peerPort flags)),(w.heap.size+1,(P4R 0 0 false false 0 0 0 ⟨#[]⟩ ⟨#[]⟩ ⟨#[]⟩ ⟨#[]⟩))] W7):=S6.out.draw hs hg;clear hs hg S6 x0 x1 x2 x3 x4 hss hds hsp hdp hpr;have HHq:HoldsL W7 Pb (P4V q2):=S7.out.at mE1;have u10:=HHq.cell (j:=10) rfl;have uf10:=HHq.free (j:=10) (by simp);clear HHq;have S8:Hid (DB w B sa len cap size [(Fb,(FlV f2)),(Pb,(P4R q2.tos q2.id q2.whole q2.more q2.off q2.ttl q2.proto q2.src q2.dst q2.opts dt)),(w.heap.size,(TcR proto inside addr port peer peerPort flags)),(w.heap.size+1,(P4R 0 0 false false 0 0 0 ⟨#[]⟩ ⟨#[]⟩ ⟨#[]⟩ ⟨#[]⟩))] (W7.setCell ⟨Pb,10,none⟩ (.string dt))):=(((S7.out.swap).set 10 (.string dt) rfl (HNPF.out _)).swap);go_upto_region 12 with fail
   generalize (W7.setCell ⟨Pb,10,none⟩ (.string dt))=W8 at *;clear S7 u10 uf10;have HQ3:Hid (PkDr { q2 with data:=dt }):=⟨HQ2.out.1,HQ2.out.2.1,HQ2.out.2.2.1,by show dt.size≤1000; omega⟩;clear HQ2;have HHf:HoldsL W8 Fb (FlV f2):=S8.out.at mE0;have x0:=HHf.cell (j:=0) rfl;clear HHf;by_cases h6:f2.proto=6
   case neg =>
    have hb:(f2.proto==6)=false:=by simp [h6]
    go_wp2_with fail
    go_meet;exact ⟨{ q2 with data:=dt },HQ3.out,S8.out.tail⟩
   have hb:(f2.proto==6)=true:=by simp [h6]
   have hd3:18≤dt.size:=by rw [h6] at hd2; unfold checkAt at hd2; simp at hd2; omega
   clear hd2;have y6:W8.cell? ⟨w.heap.size,6,none⟩=some (iV flags):=(show HoldsL W8 w.heap.size (TcR proto inside addr port peer peerPort flags) from S8.out.at mE2).cell rfl;have HBY:Hid (∀ W,Cw 38 #[iV flags] W (.bool (isIn flags 0 255))):=fun W=>specByte_any _ W
   have HIN:Hid (isIn flags 0 255=true→0≤flags∧flags≤255):=fun h=>by unfold isIn at h; simpa using h
   generalize isIn flags 0 255=fb at *;go_wp2_with fail
   refine (HBY.out _).mono ?_;rintro e w9 ⟨rfl,hw9⟩;obtain rfl:W8=w9:=hw9.symm;clear HBY
   cases fb with
   | false =>
    go_wp2_with fail
    go_meet;exact ⟨{ q2 with data:=dt },HQ3.out,S8.out.tail⟩
   | true =>
    obtain ⟨hl0,hl1⟩:=HIN.out rfl;clear HIN y6;have u10:W8.cell? ⟨Pb,10,none⟩=some (.string dt):=(show HoldsL W8 Pb (P4R q2.tos q2.id q2.whole q2.more q2.off q2.ttl q2.proto q2.src q2.dst q2.opts dt) from S8.out.at mE1).cell rfl;have HA:Hid (∀ (s:ByteArray) (k:Nat) W,k+1 < s.size→s.size≤1000→Calls Tryz.prog 42 #[.string s,iV k] W fun e w'=>(∃ r,e=.returned (iV r)∧0≤r∧r≤65535)∧Below W.heap.size W w'):=fun s k W h1 h2=>(specAt_any s k W h1 (by unfold maxLen; omega)).mono fun e w' h=>⟨⟨_,h.1,(wordN_range (bt_isByte s) k).1,(wordN_range (bt_isByte s) k).2⟩,h.2⟩
    go_wp2_with fail
    refine (HA.out dt 12 _ (by omega) (by omega)).mono ?_;rintro e Wa ⟨⟨old,rfl,old0,old1⟩,hb9⟩;have TWa:Hid (DB w B sa len cap size [(Fb,(FlV f2)),(Pb,(P4R q2.tos q2.id q2.whole q2.more q2.off q2.ttl q2.proto q2.src q2.dst q2.opts dt)),(w.heap.size,(TcR proto inside addr port peer peerPort flags)),(w.heap.size+1,(P4R 0 0 false false 0 0 0 ⟨#[]⟩ ⟨#[]⟩ ⟨#[]⟩ ⟨#[]⟩))] Wa):=S8.out.below hb9;clear hb9;clear S8 u10 x0;have u10:Wa.cell? ⟨Pb,10,none⟩=some (.string dt):=(show HoldsL Wa Pb (P4R q2.tos q2.id q2.whole q2.more q2.off q2.ttl q2.proto q2.src q2.dst q2.opts dt) from TWa.out.at mE1).cell rfl;have y6:Wa.cell? ⟨w.heap.size,6,none⟩=some (iV flags):=(show HoldsL Wa w.heap.size (TcR proto inside addr port peer peerPort flags) from TWa.out.at mE2).cell rfl;go_upto_region 14 with fail
    obtain ⟨o1,ho1,hcv⟩:=one_convP (w:=Wa.alloc (.cells #[.int .u8 flags] 5)) (b:=Wa.heap.size) (cap:=1) (n:=flags) hl0 hl1 (by simp);have Tb:Hid (DB w B sa len cap size [(Fb,(FlV f2)),(Pb,(P4R q2.tos q2.id q2.whole q2.more q2.off q2.ttl q2.proto q2.src q2.dst q2.opts dt)),(w.heap.size,(TcR proto inside addr port peer peerPort flags)),(w.heap.size+1,(P4R 0 0 false false 0 0 0 ⟨#[]⟩ ⟨#[]⟩ ⟨#[]⟩ ⟨#[]⟩))] (Wa.alloc (.cells #[.int .u8 flags] 5))):=TWa.out.below ((Below.refl _ _).alloc (Nat.le_refl _) _);go_wp2_with fail
    refine (specPut_any dt 13 o1 _ (by omega) (by omega)).mono ?_;rintro e Wc ⟨d1,rfl,hz1,hb9⟩;have Tc:Hid (DB w B sa len cap size [(Fb,(FlV f2)),(Pb,(P4R q2.tos q2.id q2.whole q2.more q2.off q2.ttl q2.proto q2.src q2.dst q2.opts dt)),(w.heap.size,(TcR proto inside addr port peer peerPort flags)),(w.heap.size+1,(P4R 0 0 false false 0 0 0 ⟨#[]⟩ ⟨#[]⟩ ⟨#[]⟩ ⟨#[]⟩))] Wc):=Tb.out.below hb9;clear hb9 Tb TWa hcv y6 u10;go_wp2_with fail
    refine (HA.out d1 16 _ (by omega) (by omega)).mono ?_;rintro e Wd ⟨⟨ra,rfl,ra0,ra1⟩,hb9⟩;have TWd:Hid (DB w B sa len cap size [(Fb,(FlV f2)),(Pb,(P4R q2.tos q2.id q2.whole q2.more q2.off q2.ttl q2.proto q2.src q2.dst q2.opts dt)),(w.heap.size,(TcR proto inside addr port peer peerPort flags)),(w.heap.size+1,(P4R 0 0 false false 0 0 0 ⟨#[]⟩ ⟨#[]⟩ ⟨#[]⟩ ⟨#[]⟩))] Wd):=Tc.out.below hb9;clear hb9;clear Tc;go_wp2_with fail
    refine (HA.out d1 12 _ (by omega) (by omega)).mono ?_;rintro e We ⟨⟨rb,rfl,rb0,rb1⟩,hb9⟩;have TWe:Hid (DB w B sa len cap size [(Fb,(FlV f2)),(Pb,(P4R q2.tos q2.id q2.whole q2.more q2.off q2.ttl q2.proto q2.src q2.dst q2.opts dt)),(w.heap.size,(TcR proto inside addr port peer peerPort flags)),(w.heap.size+1,(P4R 0 0 false false 0 0 0 ⟨#[]⟩ ⟨#[]⟩ ⟨#[]⟩ ⟨#[]⟩))] We):=TWd.out.below hb9;clear hb9;clear TWd;go_wp2_with fail
    refine (specTurn1_any ra old rb _ ⟨ra0,ra1⟩ ⟨old0,old1⟩ ⟨rb0,rb1⟩).mono ?_;rintro e w9 ⟨rfl,rfl⟩;obtain ⟨tr,htr⟩ : ∃ y,y=65535-add1 (add1 (65535-ra) (65535-old)) rb:=⟨_,rfl⟩;have htr2:0≤tr∧tr≤65535:=by
     have r1:=add1_range (a:=65535-ra) (b:=65535-old) (by omega) (by omega) (by omega) (by omega);have r2:=add1_range r1.1 r1.2 rb0 rb1;omega
    rw [← htr];clear htr;go_wp2_with fail
    refine (specTwo_any tr _ htr2.1 htr2.2).mono ?_;rintro e Wf ⟨rfl,hb9⟩;have Tf:Hid (DB w B sa len cap size [(Fb,(FlV f2)),(Pb,(P4R q2.tos q2.id q2.whole q2.more q2.off q2.ttl q2.proto q2.src q2.dst q2.opts dt)),(w.heap.size,(TcR proto inside addr port peer peerPort flags)),(w.heap.size+1,(P4R 0 0 false false 0 0 0 ⟨#[]⟩ ⟨#[]⟩ ⟨#[]⟩ ⟨#[]⟩))] Wf):=TWe.out.below hb9;clear hb9 TWe;have hz2:=twoV_size tr;generalize twoV tr=tv at *;go_wp2_with fail
    refine (specPut_any d1 16 tv _ (by omega) (by omega)).mono ?_;rintro e Wg ⟨d2,rfl,hz3,hb9⟩;have Tg:Hid (DB w B sa len cap size [(Fb,(FlV f2)),(Pb,(P4R q2.tos q2.id q2.whole q2.more q2.off q2.ttl q2.proto q2.src q2.dst q2.opts dt)),(w.heap.size,(TcR proto inside addr port peer peerPort flags)),(w.heap.size+1,(P4R 0 0 false false 0 0 0 ⟨#[]⟩ ⟨#[]⟩ ⟨#[]⟩ ⟨#[]⟩))] Wg):=Tf.out.below hb9;clear hb9 Tf;have HHq:HoldsL Wg Pb (P4R q2.tos q2.id q2.whole q2.more q2.off q2.ttl q2.proto q2.src q2.dst q2.opts dt):=Tg.out.at mE1;have u10:=HHq.cell (j:=10) rfl;have uf10:=HHq.free (j:=10) (by simp);clear HHq;have Sz:Hid _:=(((Tg.out.swap).set 10 (.string d2) rfl (HNPF.out _)).swap);go_wp2_with fail
    go_meet;exact ⟨{ q2 with data:=d2 },⟨HQ3.out.1,HQ3.out.2.1,HQ3.out.2.2.1,by show d2.size≤1000; omega⟩,Sz.out.tail⟩
 case rest =>
 obtain ⟨q3,hq,hS⟩:=hcut;have HQ3:Hid (PkDr q3):=hq;have S9:Hid (DB w B sa len cap size [(Pb,(P4V q3)),(w.heap.size,(TcR proto inside addr port peer peerPort flags)),(w.heap.size+1,(P4R 0 0 false false 0 0 0 ⟨#[]⟩ ⟨#[]⟩ ⟨#[]⟩ ⟨#[]⟩))] wc):=hS;clear hq hS S6 HQ2 HFO;generalize wc=W9 at *;go_wp2_with fail
 refine (drawOne_any 20 B sa len cap size _ (by omega) hl S9.out.dr.src).mono ?_;rintro e Wh ⟨c1,rfl,hs,hg⟩;have SWh:Hid (DB w B sa len cap size [(Pb,(P4V q3)),(w.heap.size,(TcR proto inside addr port peer peerPort flags)),(w.heap.size+1,(P4R 0 0 false false 0 0 0 ⟨#[]⟩ ⟨#[]⟩ ⟨#[]⟩ ⟨#[]⟩))] Wh):=S9.out.draw hs hg;clear hs hg S9;go_upto_if 101 with fail
 go_cut [] (fun wx=>∃ q,PkDr q∧DB w B sa len cap size [(Pb,(P4V q)),(w.heap.size,(TcR proto inside addr port peer peerPort flags)),(w.heap.size+1,(P4R 0 0 false false 0 0 0 ⟨#[]⟩ ⟨#[]⟩ ⟨#[]⟩ ⟨#[]⟩))] wx)
 case first =>
  cases c1 with
  | false =>
   go_wp2_with fail
   go_meet;exact ⟨q3,HQ3.out,SWh.out⟩
  | true =>
   go_wp2_with fail
   refine (drawOne_any 2 B sa len cap size _ (by omega) hl SWh.out.dr.src).mono ?_;rintro e Wi ⟨c2,rfl,hs,hg⟩;have SWi:Hid (DB w B sa len cap size [(Pb,(P4V q3)),(w.heap.size,(TcR proto inside addr port peer peerPort flags)),(w.heap.size+1,(P4R 0 0 false false 0 0 0 ⟨#[]⟩ ⟨#[]⟩ ⟨#[]⟩ ⟨#[]⟩))] Wi):=SWh.out.draw hs hg;clear hs hg SWh;have HHq:HoldsL Wi Pb (P4V q3):=SWi.out.at mE0;have u2:=HHq.cell (j:=2) rfl;have u3:=HHq.cell (j:=3) rfl;have uf3:=HHq.free (j:=3) (by simp);have uf2:=HHq.free (j:=2) (by simp);clear HHq;have Sk:Hid (DB w B sa len cap size [(Pb,(P4R q3.tos q3.id false c2 q3.off q3.ttl q3.proto q3.src q3.dst q3.opts q3.data)),(w.heap.size,(TcR proto inside addr port peer peerPort flags)),(w.heap.size+1,(P4R 0 0 false false 0 0 0 ⟨#[]⟩ ⟨#[]⟩ ⟨#[]⟩ ⟨#[]⟩))] ((sW Wi Pb 3 (.bool c2)).setCell ⟨Pb,2,none⟩ (.bool false))):=((SWi.out.set 3 (.bool c2) rfl HNP.out).set 2 (.bool false) rfl HNP.out);go_upto_region 19 with fail
   generalize ((sW Wi Pb 3 (.bool c2)).setCell ⟨Pb,2,none⟩ (.bool false))=Wk at *;clear SWi u3 u2 uf3 uf2;go_wp2_with fail
   refine (drawN_more 3 B sa len cap size _ (by omega) (by omega) hl Sk.out.dr.src).mono ?_;rintro e Wl ⟨r3,rfl,l3,h3,hs,hg⟩;have Sl:Hid (DB w B sa len cap size [(Pb,(P4R q3.tos q3.id false c2 q3.off q3.ttl q3.proto q3.src q3.dst q3.opts q3.data)),(w.heap.size,(TcR proto inside addr port peer peerPort flags)),(w.heap.size+1,(P4R 0 0 false false 0 0 0 ⟨#[]⟩ ⟨#[]⟩ ⟨#[]⟩ ⟨#[]⟩))] Wl):=Sk.out.draw hs hg;clear hs hg Sk;have HHq:HoldsL Wl Pb (P4R q3.tos q3.id false c2 q3.off q3.ttl q3.proto q3.src q3.dst q3.opts q3.data):=Sl.out.at mE0;have u4:=HHq.cell (j:=4) rfl;have uf4:=HHq.free (j:=4) (by simp);clear HHq;have Sm:Hid _:=(Sl.out.set 4 (iV r3) rfl HNP.out);go_wp2_with fail
   go_meet;exact ⟨{ q3 with whole:=false,more:=c2,off:=r3 },HQ3.out,Sm.out⟩
 case rest =>
 obtain ⟨q4,hq,hS⟩:=hcut;have HQ4:Hid (PkDr q4):=hq;have Sn:Hid (DB w B sa len cap size [(Pb,(P4V q4)),(w.heap.size,(TcR proto inside addr port peer peerPort flags)),(w.heap.size+1,(P4R 0 0 false false 0 0 0 ⟨#[]⟩ ⟨#[]⟩ ⟨#[]⟩ ⟨#[]⟩))] wc):=hS;clear hq hS SWh HQ3;generalize wc=Wn at *;go_wp2_with fail
 refine (drawOne_any 20 B sa len cap size _ (by omega) hl Sn.out.dr.src).mono ?_;rintro e Wo ⟨c3,rfl,hs,hg⟩;have SWo:Hid (DB w B sa len cap size [(Pb,(P4V q4)),(w.heap.size,(TcR proto inside addr port peer peerPort flags)),(w.heap.size+1,(P4R 0 0 false false 0 0 0 ⟨#[]⟩ ⟨#[]⟩ ⟨#[]⟩ ⟨#[]⟩))] Wo):=Sn.out.draw hs hg;clear hs hg Sn;go_upto_if 110 with fail
 go_cut [] (fun wx=>∃ q,PkDr q∧DB w B sa len cap size [(Pb,(P4V q)),(w.heap.size,(TcR proto inside addr port peer peerPort flags)),(w.heap.size+1,(P4R 0 0 false false 0 0 0 ⟨#[]⟩ ⟨#[]⟩ ⟨#[]⟩ ⟨#[]⟩))] wx)
 case first =>
  cases c3 with
  | false =>
   go_wp2_with fail
   go_meet;exact ⟨q4,HQ4.out,SWo.out⟩
  | true =>
   have HHq:HoldsL Wo Pb (P4V q4):=SWo.out.at mE0;have u9:=HHq.cell (j:=9) rfl;have uf9:=HHq.free (j:=9) (by simp);clear HHq;have Sp:Hid _:=(SWo.out.set 9 (.string ⟨#[1,1,1,0]⟩) rfl HNP.out);go_wp2_with fail
   go_meet;exact ⟨{ q4 with opts:=⟨#[1,1,1,0]⟩ },⟨HQ4.out.1,HQ4.out.2.1,by show (ByteArray.mk #[1,1,1,0]).size≤1000; decide,HQ4.out.2.2.2⟩,Sp.out⟩
 case rest =>
 obtain ⟨q5,hq,hS⟩:=hcut;have HQ5:Hid (PkDr q5):=hq;have Sq:Hid (DB w B sa len cap size [(Pb,(P4V q5)),(w.heap.size,(TcR proto inside addr port peer peerPort flags)),(w.heap.size+1,(P4R 0 0 false false 0 0 0 ⟨#[]⟩ ⟨#[]⟩ ⟨#[]⟩ ⟨#[]⟩))] wc):=hS;clear hq hS SWo HQ4;generalize wc=Wq at *;have HHq:HoldsL Wq Pb (P4V q5):=Sq.out.at mE0;have u0:=HHq.cell (j:=0) rfl;have u1:=HHq.cell (j:=1) rfl;have u2:=HHq.cell (j:=2) rfl;have u3:=HHq.cell (j:=3) rfl;have u4:=HHq.cell (j:=4) rfl;have u5:=HHq.cell (j:=5) rfl;have u6:=HHq.cell (j:=6) rfl;have u7:=HHq.cell (j:=7) rfl;have u8:=HHq.cell (j:=8) rfl;have u9:=HHq.cell (j:=9) rfl;have u10:=HHq.cell (j:=10) rfl;clear HHq;have HHz:HoldsL Wq (w.heap.size+1) (P4R 0 0 false false 0 0 0 ⟨#[]⟩ ⟨#[]⟩ ⟨#[]⟩ ⟨#[]⟩):=Sq.out.at mE2;have z0:=HHz.cell (j:=0) rfl;have z1:=HHz.cell (j:=1) rfl;have z2:=HHz.cell (j:=2) rfl;have z3:=HHz.cell (j:=3) rfl;have z4:=HHz.cell (j:=4) rfl;have z5:=HHz.cell (j:=5) rfl;have z6:=HHz.cell (j:=6) rfl;have z7:=HHz.cell (j:=7) rfl;have z8:=HHz.cell (j:=8) rfl;have z9:=HHz.cell (j:=9) rfl;have z10:=HHz.cell (j:=10) rfl;have zf0:=HHz.free (j:=0) (by simp);have zf1:=HHz.free (j:=1) (by simp);have zf2:=HHz.free (j:=2) (by simp);have zf3:=HHz.free (j:=3) (by simp);have zf4:=HHz.free (j:=4) (by simp);have zf5:=HHz.free (j:=5) (by simp);have zf6:=HHz.free (j:=6) (by simp);have zf7:=HHz.free (j:=7) (by simp);have zf8:=HHz.free (j:=8) (by simp);have zf9:=HHz.free (j:=9) (by simp);have zf10:=HHz.free (j:=10) (by simp);have HRR:Hid (HoldsL ((sW (sW (sW (sW (sW (sW (sW (sW (sW (sW Wq (w.heap.size+1) 0 (iV q5.tos)) (w.heap.size+1) 1 (iV q5.id)) (w.heap.size+1) 2 (.bool q5.whole)) (w.heap.size+1) 3 (.bool q5.more)) (w.heap.size+1) 4 (iV q5.off)) (w.heap.size+1) 5 (iV q5.ttl)) (w.heap.size+1) 6 (iV q5.proto)) (w.heap.size+1) 7 (.string q5.src)) (w.heap.size+1) 8 (.string q5.dst)) (w.heap.size+1) 9 (.string q5.opts)).setCell ⟨w.heap.size+1,10,none⟩ (.string q5.data)) (w.heap.size+1) (P4V q5)):=(((((((((((HHz.set 0 (iV q5.tos)).set 1 (iV q5.id)).set 2 (.bool q5.whole)).set 3 (.bool q5.more)).set 4 (iV q5.off)).set 5 (iV q5.ttl)).set 6 (iV q5.proto)).set 7 (.string q5.src)).set 8 (.string q5.dst)).set 9 (.string q5.opts)).set 10 (.string q5.data));have DD:Hid (Dr w B sa len cap size ((sW (sW (sW (sW (sW (sW (sW (sW (sW (sW Wq (w.heap.size+1) 0 (iV q5.tos)) (w.heap.size+1) 1 (iV q5.id)) (w.heap.size+1) 2 (.bool q5.whole)) (w.heap.size+1) 3 (.bool q5.more)) (w.heap.size+1) 4 (iV q5.off)) (w.heap.size+1) 5 (iV q5.ttl)) (w.heap.size+1) 6 (iV q5.proto)) (w.heap.size+1) 7 (.string q5.src)) (w.heap.size+1) 8 (.string q5.dst)) (w.heap.size+1) 9 (.string q5.opts)).setCell ⟨w.heap.size+1,10,none⟩ (.string q5.data))):=(((((((((((Sq.out.dr.set (w.heap.size+1) 0 (iV q5.tos) (by omega)).set (w.heap.size+1) 1 (iV q5.id) (by omega)).set (w.heap.size+1) 2 (.bool q5.whole) (by omega)).set (w.heap.size+1) 3 (.bool q5.more) (by omega)).set (w.heap.size+1) 4 (iV q5.off) (by omega)).set (w.heap.size+1) 5 (iV q5.ttl) (by omega)).set (w.heap.size+1) 6 (iV q5.proto) (by omega)).set (w.heap.size+1) 7 (.string q5.src) (by omega)).set (w.heap.size+1) 8 (.string q5.dst) (by omega)).set (w.heap.size+1) 9 (.string q5.opts) (by omega)).set (w.heap.size+1) 10 (.string q5.data) (by omega))
 clear HHz Sq;go_wp2_with fail
 exact bodyPost_ret (results_mid Tryz.results51 _ _ (w.heap.size+1) (P4V q5) _ rfl HRR.out Tryz.underlying33 rfl (show (Tryz.prog.info? 33).map (·.size)=some 11 by kernel_rfl)) rfl ⟨⟨q5,rfl,HQ5.out⟩,DD.out.src,DD.out.grown⟩
def Off (n:Nat) (ks:List (Nat × List Value)) {α:Type} (xs:List α) (a:Option Addr):Prop:=xs=[]∨∀ g o,a=some ⟨g,o,none⟩→n≤g∧∀ e∈ks,e.1≠g
theorem slis_lt {α:Type} {en:α→List Value} {n:Nat} {w:World} {a:Option Addr} {xs:List α} (h:SlIs en n w a xs):xs=[]∨∀ g o,a=some ⟨g,o,none⟩→g < w.heap.size:=by
 rcases h with h | ⟨b,off,rfl,hb,-⟩
 ·exact .inl h
 ·exact .inr fun g o e=>by injection e with e; injection e with e1 _; omega
theorem Off.push {n N:Nat} {ks:List (Nat × List Value)} {α:Type} {xs:List α} {a:Option Addr} (h:Off n ks xs a) (hl:xs=[]∨∀ g o,a=some ⟨g,o,none⟩→g < N) (l:List Value):Off n ((N,l)::ks) xs a:=by
 rcases h with h | h
 ·exact .inl h
 ·rcases hl with hl | hl
  ·exact .inl hl
  ·exact .inr fun g o e=>⟨(h g o e).1,fun e' he=>(List.mem_cons.1 he).elim (fun x=>by rw [x]; have:=hl g o e; show N≠g; omega) (fun x=>(h g o e).2 e' x)⟩
theorem Off.re {n:Nat} {k k':Nat × List Value} {ks:List (Nat × List Value)} {α:Type} {xs:List α} {a:Option Addr} (h:Off n (k::ks) xs a) (e:k'.1=k.1):Off n (k'::ks) xs a :=
 h.imp id fun f g o x=>⟨(f g o x).1,fun e' he=>(List.mem_cons.1 he).elim (fun y=>by rw [y,e]; exact (f g o x).2 k mE0) (fun y=>(f g o x).2 e' (.tail _ y))⟩
theorem Off.tail {n:Nat} {k:Nat × List Value} {ks:List (Nat × List Value)} {α:Type} {xs:List α} {a:Option Addr} (h:Off n (k::ks) xs a):Off n ks xs a:=h.imp id fun f g o x=>⟨(f g o x).1,fun e' he=>(f g o x).2 e' (.tail _ he)⟩
theorem Off.ne {n:Nat} {ks:List (Nat × List Value)} {α:Type} {xs:List α} {a:Option Addr} (h:Off n ks xs a) {k:Nat × List Value} (hk:k∈ks):xs=[]∨∀ g o,a=some ⟨g,o,none⟩→g≠k.1:=h.imp id fun f g o x=>((f g o x).2 k hk).symm
structure AS (w:World) (B:Nat) (sa:Option Addr) (len cap:Nat) (size:Int) (ks:List (Nat × List Value)) (pa:Option Addr) (p:Pl) (a b:Option Addr) (x:Bb) (wx:World):Prop where
 db:DB w B sa len cap size ks wx
 pl:SlIs strL1 1 wx pa p.addrs
 bb:BbIs wx a b x
 fp:Off w.heap.size ks p.addrs pa
 fa:Off w.heap.size ks x.binds a
 fb:Off w.heap.size ks x.sess b
section
variable {w wx wy:World} {B:Nat} {sa:Option Addr} {len cap:Nat} {size:Int} {ks:List (Nat × List Value)} {pa:Option Addr} {p:Pl} {a b:Option Addr} {x:Bb}
theorem AS.src (h:AS w B sa len cap size ks pa p a b x wx) {α:Type} {xs:List α} {c:Option Addr} (hc:Off w.heap.size ks xs c):xs=[]∨∀ g o,c=some ⟨g,o,none⟩→g≠B:=hc.imp id fun f g o e=>by have:=(f g o e).1; have:=h.db.dr.hB; omega
theorem AS.draw (h:AS w B sa len cap size ks pa p a b x wx) (hs:Src wy B sa len cap size) (hg:wx.grownBy wy (some B)):AS w B sa len cap size ks pa p a b x wy :=
 ⟨h.db.draw hs hg,h.pl.grown hg (h.src h.fp),⟨h.bb.bd.grown hg (h.src h.fa),h.bb.ss.grown hg (h.src h.fb)⟩,h.fp,h.fa,h.fb⟩
theorem AS.below (h:AS w B sa len cap size ks pa p a b x wx) (hb:Below wx.heap.size wx wy):AS w B sa len cap size ks pa p a b x wy:=⟨h.db.below hb,h.pl.below hb,h.bb.below hb,h.fp,h.fa,h.fb⟩
theorem AS.push (h:AS w B sa len cap size ks pa p a b x wx) (vs:List Value) (hv:0 < vs.length) (T:TypeId):AS w B sa len cap size ((wx.heap.size,vs)::ks) pa p a b x (wx.alloc (.cells vs.toArray T)) :=
 have hb:Below wx.heap.size wx (wx.alloc (.cells vs.toArray T)):=(Below.refl _ _).alloc (Nat.le_refl _) _;⟨h.db.push vs hv T,h.pl.below hb,h.bb.below hb,h.fp.push (slis_lt h.pl) _,h.fa.push (slis_lt h.bb.bd) _,h.fb.push (slis_lt h.bb.ss) _⟩
theorem AS.set {X:Nat} {vs vs':List Value} (h:AS w B sa len cap size ((X,vs)::ks) pa p a b x wx) (j:Nat) (v:Value) (hv:vs.set j v=vs') (hne:∀ e∈ks,e.1≠X):AS w B sa len cap size ((X,vs')::ks) pa p a b x (wx.setCell ⟨X,j,none⟩ v) :=
 ⟨h.db.set j v hv hne,slis_setT h.pl (h.fp.ne mE0) j v,⟨slis_setT h.bb.bd (h.fa.ne mE0) j v,slis_setT h.bb.ss (h.fb.ne mE0) j v⟩,h.fp.re rfl,h.fa.re rfl,h.fb.re rfl⟩
theorem AS.tail {k:Nat × List Value} (h:AS w B sa len cap size (k::ks) pa p a b x wx):AS w B sa len cap size ks pa p a b x wx:=⟨h.db.tail,h.pl,h.bb,h.fp.tail,h.fa.tail,h.fb.tail⟩
theorem AS.perm {ks':List (Nat × List Value)} (h:AS w B sa len cap size ks pa p a b x wx) (hs:∀ e∈ks',e∈ks):AS w B sa len cap size ks' pa p a b x wx :=
 ⟨h.db.sub hs,h.pl,h.bb,h.fp.imp id fun f g o e=>⟨(f g o e).1,fun y hy=>(f g o e).2 y (hs y hy)⟩,h.fa.imp id fun f g o e=>⟨(f g o e).1,fun y hy=>(f g o e).2 y (hs y hy)⟩,h.fb.imp id fun f g o e=>⟨(f g o e).1,fun y hy=>(f g o e).2 y (hs y hy)⟩⟩
theorem AS.swap {e f:Nat × List Value} (h:AS w B sa len cap size (e::f::ks) pa p a b x wx):AS w B sa len cap size (f::e::ks) pa p a b x wx:=h.perm fun y hy=>by simp at hy ⊢; rcases hy with h | h | h<;>simp [h]
theorem AS.rot {e f g:Nat × List Value} (h:AS w B sa len cap size (e::f::g::ks) pa p a b x wx):AS w B sa len cap size (g::e::f::ks) pa p a b x wx:=h.perm fun y hy=>by simp at hy ⊢; rcases hy with h | h | h | h<;>simp [h]
end
def AskRet (w:World) (B:Nat) (sa:Option Addr) (len cap:Nat) (size:Int) (e:Ending) (w':World):Prop:=∃ pa pc p ba bo ca cb x q now,e=.returned (.tuple #[plC pa pc p,bbC ba bo ca cb x,p4C q,iV now])∧PlDr p∧p.addrs.length≤pc∧BbDr x∧PkDr q∧In64t now∧AS w B sa len cap size [] pa p ba bo x w'
end Go.Proofs.YtdkepkaflielhaaGreatDoor
