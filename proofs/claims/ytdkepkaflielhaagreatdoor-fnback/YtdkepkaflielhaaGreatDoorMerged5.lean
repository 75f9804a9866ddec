import Derived.Test.YtdkepkaflielhaaGreatDoorMerged2
import Derived.Deep.RegionWith
set_option linter.unusedVariables false
set_option linter.unusedSimpArgs false
set_option maxRecDepth 100000
set_option maxHeartbeats 8000000
namespace Go.Proofs.YtdkepkaflielhaaGreatDoor
open Go.RowKit Go.PlainAid
def IM(n:Int):List UInt8:=[UInt8.ofNat (n / 256).toNat,UInt8.ofNat (n % 256).toNat]
def aR(n:Int):BA:=⟨(IM n).toArray⟩
theorem fM(x:Int)(h0:0≤x)(h1:x≤255):((UInt8.ofNat x.toNat).toNat:Int)=x:=by
 rw[UInt8.toNat_ofNat'];omega
theorem KY{w:World}{b:Nat}{n:Int}(h0:0≤n)(h1:n≤65535)
  (hc0:w.cell? ⟨b,0,none⟩=some (.int .u8 (n / 256))) (hc1:w.cell? ⟨b,1,none⟩=some (.int .u8 (n % 256))) :
  ∀j (hj:j < (IM n).length),w.cell? (Addr.add ⟨b,0,none⟩ j)=some (.int .u8 ((IM n)[j].toNat:Int)):=by
 intro j hj;match j,hj with
 | 0,_=>simp only[Addr.add,Nat.add_zero,IM,UZ];rw[fM _ (by omega) (by omega)];exact hc0
 | 1,_=>simp only[Addr.add,UI,IM,List.getElem_cons_succ,UZ];rw[fM _ (by omega) (by omega)];exact hc1
theorem NV{w:World}{b cap:Nat}{n:Int}(h0:0≤n)(h1:n≤65535)
  (hc0:w.cell? ⟨b,0,none⟩=some (.int .u8 (n / 256))) (hc1:w.cell? ⟨b,1,none⟩=some (.int .u8 (n % 256))) :
  (convert 22 9 (.slice (some ⟨b,0,none⟩) 2 cap)).run Tryz.prog w=.ok (.string (aR n)) w :=
 run_convert_bytes_back (P:=Tryz.prog) w 22 9 5 ⟨b,0,none⟩ cap (IM n) Tryz.underlying22 Tryz.underlying5 Tryz.underlying9 (KY h0 h1 hc0 hc1)
theorem bY(n:Int)(w:World)(h0:0≤n)(h1:n≤65535) :
  Cb 73 #[iV n] w (.string (aR n)):=by
 have hcv:=NV (w:=w.alloc (.cells #[.int .u8 (n / 256),.int .u8 (n % 256)] 5)) (b:=w.heap.size) (cap:=2) h0 h1 (by simp) (by simp);go_enter Tryz.func73,Tryz.ntmps73
 go_wp2
 go_ret;exact⟨rfl,bR.alloc lR _⟩
def jS(n:Int):Bool:=decide (0≤n)&&decide (n≤65535)
theorem iG{n:Int}(h0:0≤n)(h1:n≤65535):jS n=true:=by simp[jS,h0,h1]
theorem rM{n:Int}(h:¬(0≤n∧n≤65535)):jS n=false:=by
 rw[Bool.eq_false_iff];intro hh;simp[jS]at hh;exact h hh
theorem gL(n:Int)(w:World) :
  Cw 39 #[iV n] w (.bool (jS n)):=by
 by_cases h0:0≤n
 ·by_cases h1:n≤65535
  ·have HV:Hid (jS n=true):=iG h0 h1;go_enter Tryz.func39,Tryz.ntmps39
   go_wp2
   go_ret;exact⟨aC HV.out.symm,rfl⟩
  ·have HV:Hid (jS n=false):=rM (fun h=>h1 h.2);go_enter Tryz.func39,Tryz.ntmps39
   go_wp2
   go_ret;exact⟨aC HV.out.symm,rfl⟩
 ·have HV:Hid (jS n=false):=rM (fun h=>h0 h.1);go_enter Tryz.func39,Tryz.ntmps39
  go_wp2
  go_ret;exact⟨aC HV.out.symm,rfl⟩
theorem dU(n:Int)(w:World) :
  Cw 122 #[iV n] w (.bool (jS n)):=by
 by_cases h0:0≤n
 ·by_cases h1:n≤65535
  ·have HV:Hid (jS n=true):=iG h0 h1;go_enter Tryz.func122,Tryz.ntmps122
   go_wp2
   go_ret;exact⟨aC HV.out.symm,rfl⟩
  ·have HV:Hid (jS n=false):=rM (fun h=>h1 h.2);go_enter Tryz.func122,Tryz.ntmps122
   go_wp2
   go_ret;exact⟨aC HV.out.symm,rfl⟩
 ·have HV:Hid (jS n=false):=rM (fun h=>h0 h.1);go_enter Tryz.func122,Tryz.ntmps122
  go_wp2
  go_ret;exact⟨aC HV.out.symm,rfl⟩
def kK:List Int→List Int
 | []=>[]
 | n::r=>n / 256::n % 256::kK r
theorem nF(ws:List Int):(kK ws).length=2*ws.length:=by
 induction ws with
 | nil=>rfl
 | cons n r ih=>simp[kK,ih];omega
theorem DL(a:List Int)(n:Int):kK (a++[n])=kK a++[n / 256,n % 256]:=by
 induction a with
 | nil=>rfl
 | cons m r ih=>simp[kK,ih]
theorem MO{ws:List Int}{k:Nat}{n:Int}{w2:World}{B e:Nat}{v:Value}(hn:n=ws.getD k 0)(hk:k < ws.length)
  (h:w2.ownsRow B e 1 v (2*k+2) ((kK (ws.take k)).map (Value.int .u8)++[Value.int .u8 (n / 256),Value.int .u8 (n % 256)])) :
  w2.ownsRow B e 1 v (2*(k+1)) ((kK (ws.take (k+1))).map (Value.int .u8)):=by
 have e1:ws.take (k+1)=ws.take k++[n]:=by
  rw[List.take_succ_eq_append_getElem hk,hn];simp[List.getD,hk]
 rw[e1,DL,List.map_append];exact h
theorem Tryz.info5:(Tryz.prog.info? 5).map (fun i=>(i.zero,i.size,i.bytes))=some (some (.int .u8 0),1,1):=by kernel_rfl
theorem mG(ws:List Int)(b m cap:Nat)(w:World)(hm:m≤1000)(hb:b < w.heap.size)(hl:ws.length=m)
  (hw:∀k,0≤ws.getD k 0∧ws.getD k 0≤65535) (hc:∀k,k < m→w.cell? ⟨b,k,none⟩=some (iV (ws.getD k 0))) :
  Calls Tryz.prog 154 #[.slice (some ⟨b,0,none⟩) m cap] w fun e w'=>e=.returned (.slice (some ⟨w.heap.size,0,none⟩) (2*m) (2*m)) ∧
   w'.ownsRow w.heap.size 5 1 (.slice (some ⟨w.heap.size,0,none⟩) (2*m) (2*m)) (2*m) ((kK ws).map (Value.int .u8))∧Below w.heap.size w w':=by
 obtain⟨i0,hi,hz0,hz1,hz2⟩:=info_parts Tryz.info5;go_enter Tryz.func154,Tryz.ntmps154
 go_wp2_with (at_make;refine wpList_make_own _ rfl _ _ 22 rfl w.heap.size 5 i0 (.int .u8 0) 1 Tryz.underlying22 hi hz0 hz1 .i64 .i64 _ (2*m) rfl rfl (by omega) (by rw[hz2];omega) (by unfold maxLen;omega) lR ?_;intro w1 hown hgrow)
 have hbel:Below w.heap.size w w1:=bR.grown hgrow lR (by simp);clear hgrow;go_loopw [3,12] (fun v i wr=>∃k:Nat,k≤m∧i=iV k∧v=.slice (some ⟨w.heap.size,0,none⟩) (2*k) (2*m) ∧
   wr.ownsRow w.heap.size 5 1 (.slice (some ⟨w.heap.size,0,none⟩) (2*k) (2*m)) (2*k) ((kK (ws.take k)).map (Value.int .u8))∧Below w.heap.size w wr) (fun _ i _=>m-(intOf i).toNat)
 case atStart=>exact⟨0,VC _,rfl,rfl,by simpa[kK] using hown,hbel⟩
 case round=>
  clear hown hbel;obtain⟨k,hk,rfl,rfl,hown,hbel⟩:=hrel;by_cases hlt:k < m
  ·have hcx:wr.cell? ⟨b,k,none⟩=some (iV (ws.getD k 0)):=(hbel.cell (p:=⟨b,k,none⟩) hb).trans (hc k hlt);obtain⟨n,hn⟩: ∃n,n=ws.getD k 0:=⟨_,rfl⟩;have hwn:=hw k;rw[←hn]at hcx hwn;have HN:Hid (n=ws.getD k 0):=hn;clear hn hw hc;have hsz:=hbel.size;go_wp2_with (at_builtin;refine wpList_append_fits _ rfl (.tmp 16) (.tmp 22) 22 rfl w.heap.size 5 i0 1 Tryz.underlying22 hi hz1 w.heap.size (2*k) (2*m) _ rfl (hown.alloc _) ⟨wr.heap.size,0,none⟩ 2 2 [.int .u8 (n / 256),.int .u8 (n % 256)] rfl rfl ?c1 ?c2 (by omega) ?_)
   case c1=>
    intro j u hj;match j,hj with
    | 0,hj=>simp at hj;subst hj;simp[Addr.add]
    | 1,hj=>simp at hj;subst hj;simp[Addr.add]
   case c2=>intro u hu;simp at hu;rcases hu with rfl|rfl<;>rfl
   ·intro w2 hown2 hgrow2;have hbel2:Below w.heap.size w w2:=(hbel.alloc hsz _).grown hgrow2 (by simp;omega) (by simp);have R:=MO HN.out (by omega) hown2;clear hown2 hgrow2 hown hbel hcx;go_wp2
    go_roundw
    case rel=>exact⟨k+1,by omega,by go_num,rfl,R,hbel2⟩
    case measure=>simp[intOf];omega
  ·have hkm:k=m:=by omega
   subst hkm;have R:wr.ownsRow w.heap.size 5 1 (.slice (some ⟨w.heap.size,0,none⟩) (2*k) (2*k)) (2*k) ((kK ws).map (Value.int .u8)):=by
    rw[List.take_of_length_le (by omega)]at hown;exact hown
   clear hown;go_wp2
   go_ret;exact⟨rfl,R,hbel⟩
theorem yP(f:Nat→Int)(b len cap k:Nat)(w:World)(hf:oO f)(he:∀i,len≤i→f i=0)(hl:len≤2000)(hk:k < len)
  (hc:∀i,i < len→w.cell? ⟨b,i,none⟩=some (.int .u8 (f i))) :
  Cw 186 #[.slice (some ⟨b,0,none⟩) len cap,iV k] w (iV (aM f k)):=by
 have b1:=hf k;have b2:=hf (k+1);have hj:=qR (f k) (f (k+1)) b1.1 b1.2 b2.1 b2.2;have c1:=hc k hk;by_cases h:k+1 < len
 ·have c2:=hc (k+1) h;clear hc he hf;go_enter Tryz.func186,Tryz.ntmps186
  go_wp2
  go_ret;exact⟨aK rfl,rfl⟩
 ·have HE:Hid (f (k+1)=0):=he _ (by omega);clear hc he hf;go_enter Tryz.func186,Tryz.ntmps186
  go_wp2
  go_ret;exact⟨aK (by unfold aM;rw[HE.out];omega),rfl⟩
theorem IK(f:Nat→Int)(b len cap:Nat)(w:World)(hf:oO f)(he:∀i,len≤i→f i=0)(hl:len≤2000)
  (hc:∀i,i < len→w.cell? ⟨b,i,none⟩=some (.int .u8 (f i))) :
  Cw 185 #[.slice (some ⟨b,0,none⟩) len cap] w (iV (gM f ((len+1) / 2))):=by
 have HW:Hid (∀k,k < len→Cw 186 #[.slice (some ⟨b,0,none⟩) len cap,iV k] w (iV (aM f k))):=fun k hk=>yP f b len cap k w hf he hl hk hc
 clear hc he;go_enter Tryz.func185,Tryz.ntmps185
 go_wp2
 go_loop [3,9] (fun n i=>∃k:Nat,k≤(len+1) / 2∧i=iV k∧n=iV (gM f k)) (fun _ i=>(len+1) / 2-(intOf i).toNat)
 case atStart=>exact⟨0,VC _,rfl,rfl⟩
 case round=>
  obtain⟨k,hk,rfl,rfl⟩:=hrel;have hr:=lH hf k;have hq:=cW hf (2*k);have HN:Hid (gM f (k+1)=gE (gM f k) (aM f (2*k))):=rfl;have HF:Hid _:=CY (gM f k) (aM f (2*k)) hr.1 hr.2 hq.1 hq.2;have ha:=qL (gM f k+aM f (2*k));clear hf;by_cases hlt:k < (len+1) / 2
  ·have h2:2*k < len:=by omega
   go_wp2_with (go_at_call 186;refine(HW.out (2*k) h2).mono ?_;rintro e w' ⟨rfl,rfl⟩)
   go_round
   case rel=>exact⟨k+1,by omega,by go_num,by rw[HN.out,←HF.out]⟩
   case measure=>simp[intOf];omega
  ·go_wp2
   go_ret;exact⟨aK (by rw[show (len+1) / 2=k by omega]),rfl⟩
def fL(ws:List Int)(i:Nat):Int:=(kK ws).getD i 0
theorem QQ(ws:List Int)(i:Nat)(h:2*ws.length≤i):fL ws i=0:=by
 have:=nF ws;simp[fL,List.getD,List.getElem?_eq_none (show (kK ws).length≤i by omega)]
theorem AH:∀(ws:List Int),(∀n∈ws,0≤n∧n≤65535)→oO (fL ws)
 | [],_=>fun i=>by simp[fL,kK]
 | n::r,h=>fun i=>by
  have hn:=h n (by simp);match i with
  | 0=>simp only[fL,kK,List.getD_cons_zero];omega
  | 1=>simp only[fL,kK,List.getD_cons_succ,List.getD_cons_zero];omega
  | i+2=>simpa[fL,kK] using AH r (fun m hm=>h m (by simp[hm])) i
theorem JO{a:Int}(h:a≤65535):gE 0 a=a:=by unfold gE;rw[if_neg (by omega)];omega
theorem NY(n:Int):n / 256*256+n % 256=n:=by omega
theorem KX{a b c:Int}(h:a≤65535):gM (fL [a,b,c]) 3=gE (gE a b) c:=by
 simp only[gM,aM,fL,kK,Nat.mul_zero,Nat.mul_one,UI,List.getD_cons_zero,List.getD_cons_succ,NY,show 2*2=4 from rfl];rw[JO h]
theorem qQ(ws:List Int)(h:∀n∈ws,0≤n∧n≤65535)(k:Nat):0≤ws.getD k 0∧ws.getD k 0≤65535:=by
 by_cases hk:k < ws.length
 ·simp only[List.getD,UU hk,Option.getD_some];exact h _ (UJ hk)
 ·simp[List.getD,List.getElem?_eq_none (show ws.length≤k by omega)]
theorem MM(ws:List Int)(w:World)(hm:ws.length≤1000)(h:∀n∈ws,0≤n∧n≤65535) :
  Calls Tryz.prog 154 #[.slice (some ⟨w.heap.size,0,none⟩) ws.length ws.length] (w.alloc (.cells (ws.map (Value.int .i64)).toArray 2)) fun e w' =>
   e=.returned (.slice (some ⟨w.heap.size+1,0,none⟩) (2*ws.length) (2*ws.length))∧(∀i,i < 2*ws.length→w'.cell? ⟨w.heap.size+1,i,none⟩=some (.int .u8 (fL ws i)))∧Below w.heap.size w w':=by
 refine(mG ws w.heap.size ws.length ws.length (w.alloc (.cells (ws.map (Value.int .i64)).toArray 2)) hm (by simp) rfl (qQ ws h) (by intro k hk;simp[hk])).mono ?_;rintro e w' ⟨rfl,hown,hB⟩;have hz:(w.alloc (.cells (ws.map (Value.int .i64)).toArray 2)).heap.size=w.heap.size+1:=by simp
 rw[hz]at hown hB ⊢;refine⟨rfl,fun i hi=>?_,(bR.alloc lR _).trans (hB.mono (by omega))⟩;have hl:=nF ws;rw[hown.cellAt i (by omega)];simp[fL,show i < (kK ws).length by omega]
theorem yO(s o n:Int)(w:World)(hs:0≤s∧s≤65535)(ho:0≤o∧o≤65535)(hn:0≤n∧n≤65535) :
  Cw 84 #[iV s,iV o,iV n] w (iV (65535-gE (gE (65535-s) (65535-o)) n)):=by
 have r1:=iR (a:=65535-s) (b:=65535-o) (by omega) (by omega) (by omega) (by omega);have r2:=iR r1.1 r1.2 hn.1 hn.2;go_enter Tryz.func84,Tryz.ntmps84
 go_wp2_with fail
 refine(kI (65535-s) (65535-o) _ (by omega) (by omega) (by omega) (by omega)).mono ?_;rintro e w' ⟨rfl,rfl⟩;go_wp2_with fail
 refine(kI _ n _ r1.1 r1.2 hn.1 hn.2).mono ?_;rintro e w' ⟨rfl,rfl⟩;go_wp2
 go_ret;exact⟨rfl,rfl⟩
def lT(s o n:Int):Int:=if (0≤s∧s≤65535)∧(0≤o∧o≤65535)∧(0≤n∧n≤65535) then 65535-gE (gE (65535-s) (65535-o)) n else 0
theorem vH(s o n:Int)(w:World) :
  Cb 184 #[iV s,iV o,iV n] w (iV (lT s o n)):=by
 by_cases hs:0≤s∧s≤65535
 ·have i1:=iG hs.1 hs.2;by_cases ho:0≤o∧o≤65535
  ·have i2:=iG ho.1 ho.2;by_cases hn:0≤n∧n≤65535
   ·have i3:=iG hn.1 hn.2;have HV:Hid (lT s o n=65535-gM (fL [65535-s,65535-o,n]) 3):=(if_pos ⟨hs,ho,hn⟩: lT s o n=65535-gE (gE (65535-s) (65535-o)) n).trans (by rw[KX (by omega)]);have hws:∀m∈[65535-s,65535-o,n],0≤m∧m≤65535:=by intro m hm;simp at hm;rcases hm with rfl|rfl|rfl<;>omega
    have HL:Hid (Calls Tryz.prog 154 #[.slice (some ⟨w.heap.size,0,none⟩) 3 3] (w.alloc (.cells #[iV (65535-s),iV (65535-o),iV n] 2)) fun e w' =>
     e=.returned (.slice (some ⟨w.heap.size+1,0,none⟩) 6 6)∧(∀i,i < 6→w'.cell? ⟨w.heap.size+1,i,none⟩=some (.int .u8 (fL [65535-s,65535-o,n] i)))∧Below w.heap.size w w'):=MM [65535-s,65535-o,n] w (by simp) hws
    have HB:Hid (oO (fL [65535-s,65535-o,n])):=AH _ hws;have hr:=lH HB.out 3;clear hws;go_enter Tryz.func184,Tryz.ntmps184
    go_wp2_with (first | (go_at_call 122;refine(dU _ _).mono ?_;rintro e w' ⟨rfl,rfl⟩) | (go_at_call 154;refine HL.out.mono ?_;rintro e w' ⟨rfl,hc,hB⟩;have HC:Hid _:=hc;clear hc) | (go_at_call 185;refine(IK (fL [65535-s,65535-o,n]) _ 6 6 _ HB.out (QQ [65535-s,65535-o,n]) (by omega) HC.out).mono ?_;rintro e w' ⟨rfl,rfl⟩))
    go_ret;exact⟨aK HV.out.symm,hB⟩
   ·have HV:Hid (lT s o n=0):=if_neg (fun h=>hn h.2.2);have i3:=rM hn;clear hn;go_enter Tryz.func184,Tryz.ntmps184
    go_wp2_with (go_at_call 122;refine(dU _ _).mono ?_;rintro e w' ⟨rfl,rfl⟩)
    go_ret;exact⟨aK HV.out.symm,Below.refl _ _⟩
  ·have HV:Hid (lT s o n=0):=if_neg (fun h=>ho h.2.1);have i2:=rM ho;clear ho;go_enter Tryz.func184,Tryz.ntmps184
   go_wp2_with (go_at_call 122;refine(dU _ _).mono ?_;rintro e w' ⟨rfl,rfl⟩)
   go_ret;exact⟨aK HV.out.symm,Below.refl _ _⟩
 ·have HV:Hid (lT s o n=0):=if_neg (fun h=>hs h.1);have i1:=rM hs;clear hs;go_enter Tryz.func184,Tryz.ntmps184
  go_wp2_with (go_at_call 122;refine(dU _ _).mono ?_;rintro e w' ⟨rfl,rfl⟩)
  go_ret;exact⟨aK HV.out.symm,Below.refl _ _⟩
def TC(x:Nat):BA:=⟨#[UInt8.ofNat x]⟩
def PR(k:Nat)(o:BA):BA:=if h:k=0 then o else PR (k / 10) (TC (48+k % 10)++o)
termination_by k
decreasing_by omega
def TW:BA:=⟨#[109]⟩
def JC(k:Nat):BA:=TW++PR k ⟨#[]⟩
def PA(n k L:Nat):List Nat:=(List.range L).map fun i=>k+n*i
structure TU(en:Nat→List Value)(n:Nat)(w0:World)(B k L m:Nat)(cs:List Value)(w:World):Prop where
 laid:gQ en n w B (PA n k L) L m
 part:w.rangeAt B (m*n) cs
 grown:w0.grownBy w (some B)
section
variable {en:Nat→List Value} {n:Nat} {w0 w w':World} {B k L m:Nat} {cs:List Value}
end
end Go.Proofs.YtdkepkaflielhaaGreatDoor
