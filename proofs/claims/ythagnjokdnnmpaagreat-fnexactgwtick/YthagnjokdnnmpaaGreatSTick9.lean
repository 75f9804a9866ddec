import Derived.Test.YthagnjokdnnmpaaGreatMerged16
import Derived.Test.YthagnjokdnnmpaaGreatSBibR
set_option linter.unusedVariables false
set_option linter.unusedSimpArgs false
set_option maxRecDepth 100000
set_option maxHeartbeats 8000000
namespace Go.Proofs.YthagnjokdnnmpaaGreat
open Go.RowKit Go.PlainAid
def lateS (now:Int) (s:Ss):Bool:=decide (now < s.untl)
def tickV (x:Bb) (now:Int):Bb:=⟨x.binds.filter fun y=>(x.sess.filter (lateS now)).any fun s=>hasS y s,x.sess.filter (lateS now)⟩
theorem filter_one {α:Type} (p:α→Bool) (xs:List α) (i:Nat) (h:i < xs.length):(xs.take (i+1)).filter p=if p xs[i]=true then (xs.take i).filter p++[xs[i]] else (xs.take i).filter p:=by
 rw [List.take_succ_eq_append_getElem h,List.filter_append];by_cases hp:p xs[i]=true
 ·rw [if_pos hp]; simp [hp]
 ·rw [if_neg hp]; simp [hp]
theorem filter_most {α:Type} (p:α→Bool) (xs:List α) (i:Nat) (h:xs.length≤1048576):((xs.take i).filter p).length≤1048576:=Nat.le_trans (List.length_filter_le _ _) (by simp; omega)
def IsOneC (cs:List Value):Value→World→Prop:=fun v w=>∃ g,v=.slice (some ⟨g,0,none⟩) 1 1∧HoldsL w g cs
theorem stable_isOneC (cs:List Value) (hl:0 < cs.length):Stable (IsOneC cs):=fun v w w' ⟨g,h1,h2⟩ hb=>⟨g,h1,h2.kept hl hb⟩
theorem spTick_any (x:Bb) (a b:Option Addr) (ca cb:Nat) (now:Int) (w:World) (hl1:x.binds.length≤1048576) (hl2:x.sess.length≤1048576) (hr:BbIs w a b x) :
  Calls Tryz.prog 68 #[bbC a b ca cb x,.int .i64 now] w fun e w'=>BbRet w.heap.size (tickV x now) e w'∧Below w.heap.size w w':=by
 have HST:Hid (TickSt w [.slice a x.binds.length ca,.slice b x.sess.length cb] (.slice none 0 0) (.slice none 0 0) [] [] (((w.alloc (.cells #[.slice a x.binds.length ca,.slice b x.sess.length cb] 36)).alloc (.cells #[.slice none 0 0,.slice none 0 0] 36)).alloc (.cells #[.slice none 0 0,.slice none 0 0] 36))):=by
  have H0:=((HoldsL.new w [.slice a x.binds.length ca,.slice b x.sess.length cb] 36).alloc (.cells #[.slice none 0 0,.slice none 0 0] 36)).alloc (.cells #[.slice none 0 0,.slice none 0 0] 36);have H1:=(HoldsL.new (w.alloc (.cells #[.slice a x.binds.length ca,.slice b x.sess.length cb] 36)) [.slice none 0 0,.slice none 0 0] 36).alloc (.cells #[.slice none 0 0,.slice none 0 0] 36);have H2:=HoldsL.new ((w.alloc (.cells #[.slice a x.binds.length ca,.slice b x.sess.length cb] 36)).alloc (.cells #[.slice none 0 0,.slice none 0 0] 36)) [.slice none 0 0,.slice none 0 0] 36;rw [World.size_alloc] at H1 H2;rw [World.size_alloc] at H2;exact ⟨H0,H1,H2,⟨by simp [flatS],.inl ⟨rfl,rfl⟩⟩,⟨by simp [flatS],.inl ⟨rfl,rfl⟩⟩,(((Below.refl _ _).alloc (Nat.le_refl _) _).alloc (by simp) _).alloc (by simp; omega) _,fun g e=>by simp [Value.ownBlock] at e⟩
 have HR:Hid (BbIs w a b x):=hr;unfold bbC;clear hr;go_enter Tryz.func68,Tryz.ntmps68
 go_upto_region 2 with fail
 generalize ((w.alloc (.cells #[.slice a x.binds.length ca,.slice b x.sess.length cb] 36)).alloc (.cells #[.slice none 0 0,.slice none 0 0] 36)).alloc (.cells #[.slice none 0 0,.slice none 0 0] 36)=W3 at *;go_wp2_with fail
 go_loopw [6] (fun iv wr=>∃ (i:Nat) (sv:Value),i≤x.sess.length∧iv=.int .i64 i∧TickSt w [.slice a x.binds.length ca,.slice b x.sess.length cb] (.slice none 0 0) sv [] ((x.sess.take i).filter (lateS now)) wr) (fun iv _=>x.sess.length-(intOf iv).toNat)
 case atStart=>exact ⟨0,_,Nat.zero_le _,rfl,HST.out⟩
 case round =>
  obtain ⟨i,sv,hi,rfl,hS⟩:=hrel;have S1:Hid _:=hS;have z1:=hS.x.cell (j:=1) rfl;clear hS HST;by_cases hlt:i < x.sess.length
  ·obtain ⟨bb,off,rfl,hb,hat⟩:=HR.out.ss.at hlt;have HAT:Hid (∀ W,Below w.heap.size w W→W.rangeAt bb (off+i*7) (ssL x.sess[i])):=fun W hW=>(hat.below hb hW) i hlt
   have HFO:Hid _:=filter_one (lateS now) x.sess i hlt;have hfl:=filter_most (lateS now) x.sess i hl2;obtain ⟨q,hq⟩ : ∃ q,q=x.sess[i]:=⟨_,rfl⟩;rw [← hq] at HAT HFO;have c6:wr.cell? ⟨bb,off+i*7+6,none⟩=some (.int .i64 q.untl):=HAT.out wr S1.out.b 6 _ rfl;have hltI:(i:Int) < (x.sess.length:Int):=by omega
   generalize (x.sess.take i).filter (lateS now)=zs at *;clear hat hb hq;by_cases hlate:now < q.untl
   ·have HF2:Hid ((x.sess.take (i+1)).filter (lateS now)=zs++[q]):=by unfold Hid; rw [HFO.out,if_pos (by unfold lateS; exact decide_eq_true hlate)]
    clear HFO;go_upto_region 6 with fail
    clear z1 c6;refine wp_region_growV [26,27,28,29,30,31,32,33] (by kernel_rfl) (by kernel_rfl) ?_;apply GChV.v0
    ·rfl
    ·intro K' a wy ho hd hb hK kz;have o5:=ho 5 (by decide);simp [slot] at o5;clear hd ho;go_simp;try go_bits
     exact kz _ rfl
    apply GChV.v1
    ·rfl
    ·intro K' a wy ho hd hb hK kz;have q0:=hd ⟨0,.data⟩ (by simp) rfl;simp [rAt,IsV,slot] at q0;clear hd ho;have kx:=(S1.out.drew.kept (by simp) hb); have k1:=kx.x.cell (j:=1) rfl; have ko:wy.cell? ⟨w.heap.size+1+1,1,none⟩=some sv:=kx.o.cell rfl; have rs:=HAT.out wy kx.b; have s0:wy.cell? ⟨bb,off+i*7,none⟩=some (.int .i64 q.proto):=rs 0 _ rfl; have s1:wy.cell? ⟨bb,off+i*7+1,none⟩=some (.string q.inn):=rs 1 _ rfl; have s2:wy.cell? ⟨bb,off+i*7+2,none⟩=some (.int .i64 q.inPort):=rs 2 _ rfl; have s3:wy.cell? ⟨bb,off+i*7+3,none⟩=some (.string q.peer):=rs 3 _ rfl; have s4:wy.cell? ⟨bb,off+i*7+4,none⟩=some (.int .i64 q.peerPort):=rs 4 _ rfl; have s5:wy.cell? ⟨bb,off+i*7+5,none⟩=some (.int .i64 q.state):=rs 5 _ rfl; have s6:wy.cell? ⟨bb,off+i*7+6,none⟩=some (.int .i64 q.untl):=rs 6 _ rfl; clear rs kx;go_simp;try go_bits
     exact kz _ rfl
    apply GChV.v2
    ·rfl
    ·intro K' a wy ho hd hb hK kz;have o2:=ho 2 (by decide);simp [slot] at o2;clear hd ho;go_simp;try go_bits
     exact kz _ rfl
    apply GChV.v3
    ·rfl
    ·intro K' a wy ho hd hb hK kz;have q2:=hd ⟨2,.data⟩ (by simp) rfl;simp [rAt,IsV,slot] at q2;clear hd ho;have kx:=(S1.out.drew.kept (by simp) hb); have k1:=kx.x.cell (j:=1) rfl; have ko:wy.cell? ⟨w.heap.size+1+1,1,none⟩=some sv:=kx.o.cell rfl; have rs:=HAT.out wy kx.b; have s0:wy.cell? ⟨bb,off+i*7,none⟩=some (.int .i64 q.proto):=rs 0 _ rfl; have s1:wy.cell? ⟨bb,off+i*7+1,none⟩=some (.string q.inn):=rs 1 _ rfl; have s2:wy.cell? ⟨bb,off+i*7+2,none⟩=some (.int .i64 q.inPort):=rs 2 _ rfl; have s3:wy.cell? ⟨bb,off+i*7+3,none⟩=some (.string q.peer):=rs 3 _ rfl; have s4:wy.cell? ⟨bb,off+i*7+4,none⟩=some (.int .i64 q.peerPort):=rs 4 _ rfl; have s5:wy.cell? ⟨bb,off+i*7+5,none⟩=some (.int .i64 q.state):=rs 5 _ rfl; have s6:wy.cell? ⟨bb,off+i*7+6,none⟩=some (.int .i64 q.untl):=rs 6 _ rfl; clear rs kx;go_simp;try go_bits
     exact kz _ rfl
    apply GChV.v4
    ·rfl
    ·intro K' a wy ho hd hb hK kz;have o6:=ho 6 (by decide);simp [slot] at o6;clear hd ho;go_simp;try go_bits
     exact kz _ rfl
    apply GChV.v5
    ·rfl
    ·intro K' a wy ho hd hb hK kz;have q3:=hd ⟨3,.data⟩ (by simp) rfl;simp [rAt,IsV,slot] at q3;have q4:=hd ⟨4,.data⟩ (by simp) rfl;simp [rAt,IsV,slot] at q4;clear hd ho;go_simp;try go_bits
     exact kz _ rfl
    apply GChV.v6
    ·rfl
    ·intro K' a wy ho hd hb hK kz;have q5:=hd ⟨5,.data⟩ (by simp) rfl;simp [rAt,IsV,slot] at q5;clear hd ho;have kx:=(S1.out.drew.kept (by simp) hb); have k1:=kx.x.cell (j:=1) rfl; have ko:wy.cell? ⟨w.heap.size+1+1,1,none⟩=some sv:=kx.o.cell rfl; have rs:=HAT.out wy kx.b; have s0:wy.cell? ⟨bb,off+i*7,none⟩=some (.int .i64 q.proto):=rs 0 _ rfl; have s1:wy.cell? ⟨bb,off+i*7+1,none⟩=some (.string q.inn):=rs 1 _ rfl; have s2:wy.cell? ⟨bb,off+i*7+2,none⟩=some (.int .i64 q.inPort):=rs 2 _ rfl; have s3:wy.cell? ⟨bb,off+i*7+3,none⟩=some (.string q.peer):=rs 3 _ rfl; have s4:wy.cell? ⟨bb,off+i*7+4,none⟩=some (.int .i64 q.peerPort):=rs 4 _ rfl; have s5:wy.cell? ⟨bb,off+i*7+5,none⟩=some (.int .i64 q.state):=rs 5 _ rfl; have s6:wy.cell? ⟨bb,off+i*7+6,none⟩=some (.int .i64 q.untl):=rs 6 _ rfl; clear rs kx;go_simp;try go_bits
     exact kz _ rfl
    refine GChV.rel (n:=7) (IsOneC (ssL q)) (stable_isOneC _ (by simp [ssL])) [_,_,_,_,_,_,_,IsOneC (ssL q)] rfl rfl ?_ ?_
    ·intro K' a wy ho hd hb hK;rw [if_pos (wanted_none rfl)];have q6:=hd ⟨6,.data⟩ (by simp) rfl;simp [rAt,IsV,slot] at q6;clear hd ho;go_simp;exact hK _ _ ⟨wy.heap.size,rfl,HoldsL.new wy (ssL q) _⟩ ((Below.refl _ _).alloc (Nat.le_refl _) _)
    intro X wz hR hz;obtain ⟨x0,x1,x2,x3,x4,x5,x6,x7,-⟩:=hR;have hk7:=x7;clear hk7;simp only [IsV] at x0 x1 x2 x3 x4 x5 x6;simp only [putsFrom,x0,x1,x2,x3,x4,x5,x6,putsFrom];clear x0 x1 x2 x3 x4 x5 x6;obtain ⟨g7,e7,r7⟩:=x7;have SZ:=S1.out.kept (by simp) ((Below.refl _ _).drew.trans hz);obtain ⟨v6,w6,hrun,⟨gg,l6,c6,rfl⟩,hO6,S6⟩:=SZ.appS (by simp) q g7 r7 hfl;have HRUN:Hid _:=hrun;have HS6:Hid _:=S6;have p1:w6.cell? ⟨w.heap.size+1+1,1,none⟩=some sv:=hO6.cell rfl;have p2:=hO6.free (j:=1) (by simp);clear hrun S6 hO6 SZ r7 hz;simp only [e7];simp only [List.length_cons,List.length_nil,List.drop_succ_cons,List.drop_zero,Nat.zero_add,Nat.reduceAdd];intro K5 hK5;with_reducible refine wp_append_run (.tmp 27) (.tmp 33) _ rfl ?_ ?_ HRUN.out (hK5 _ _ ?_)
    ·simp [Act.eval,Act.put]
    ·simp [Act.eval,Act.put]
    intro K6 hK6;go_simp;refine hK6 _ _ ?_;intro K7 hK7;go_simp;refine hK7 _ _ ?_;simp only [wpSeq];go_wp2_with fail
    go_roundw
    case rel =>
     first | exact ⟨i+1,_,by omega,by go_num,by rw [HF2.out]; exact HS6.out⟩ | ((repeat apply Exists.intro); exact ⟨⟨i+1,_,by omega,by go_num,by rw [HF2.out]; exact HS6.out⟩,rfl⟩)
    case measure=>simp [intOf]<;>omega
   ·have HF2:Hid ((x.sess.take (i+1)).filter (lateS now)=zs):=by unfold Hid; rw [HFO.out,if_neg (by unfold lateS; simp; omega)]
    clear HFO;go_wp2_with fail
    go_roundw
    case rel=>exact ⟨i+1,sv,by omega,by go_num,by rw [HF2.out]; exact S1.out⟩
    case measure=>simp [intOf]; omega
  ·have hie:i=x.sess.length:=by omega
   rw [hie,List.take_length] at S1;clear hie;have HZL:Hid ((x.sess.filter (lateS now)).length≤1048576):=Nat.le_trans (List.length_filter_le _ _) hl2;have HTV:Hid (tickV x now=⟨x.binds.filter fun y=>(x.sess.filter (lateS now)).any fun s=>hasS y s,x.sess.filter (lateS now)⟩):=rfl;generalize x.sess.filter (lateS now)=zs at *;have z0:=S1.out.x.cell (j:=0) rfl;generalize wr=w9 at *;go_wp2_with fail
   go_loopw [7] (fun iv wr=>∃ (i:Nat) (bv:Value),i≤x.binds.length∧iv=.int .i64 i∧TickSt w [.slice a x.binds.length ca,.slice b x.sess.length cb] bv sv ((x.binds.take i).filter fun y=>zs.any fun s=>hasS y s) zs wr) (fun iv _=>x.binds.length-(intOf iv).toNat)
   case atStart=>exact ⟨0,_,Nat.zero_le _,rfl,S1.out⟩
   case round =>
    obtain ⟨i,bv,hi,rfl,hS⟩:=hrel;have S2:Hid _:=hS;have z0:=hS.x.cell (j:=0) rfl;clear hS S1;generalize wr=w0 at *;by_cases hlt:i < x.binds.length
    ·obtain ⟨ba,oa,rfl,hba,hata⟩:=HR.out.bd.at hlt;have HATA:Hid (∀ W,Below w.heap.size w W→W.rangeAt ba (oa+i*5) (bdL x.binds[i])):=fun W hW=>(hata.below hba hW) i hlt
     have HFO:Hid _:=filter_one (fun y=>zs.any fun s=>hasS y s) x.binds i hlt;have hfl:=filter_most (fun y=>zs.any fun s=>hasS y s) x.binds i hl1;obtain ⟨y,hy⟩ : ∃ y,y=x.binds[i]:=⟨_,rfl⟩;rw [← hy] at HATA HFO;have hltI:(i:Int) < (x.binds.length:Int):=by omega
     generalize (x.binds.take i).filter (fun y=>zs.any fun s=>hasS y s)=ys at *;clear hata hba hy;go_wp2_with fail
     go_loopw [8,9] (fun hv kv wr=>∃ k:Nat,k≤zs.length∧kv=.int .i64 k∧hv=.bool ((zs.take k).any fun s=>hasS y s)∧TickSt w [.slice (some ⟨ba,oa,none⟩) x.binds.length ca,.slice b x.sess.length cb] bv sv ys zs wr) (fun _ kv _=>zs.length-(intOf kv).toNat)
     case atStart=>exact ⟨0,Nat.zero_le _,rfl,rfl,S2.out⟩
     case round =>
      obtain ⟨k,hk,rfl,rfl,hS⟩:=hrel;have S3:Hid _:=hS;obtain ⟨sa,sc,hsv,hsc,hso⟩:=(Row.shape ssL_length (w0:=wr) ⟨hS.so,Below.refl _ _⟩ : ∃ a cap,sv=.slice a zs.length cap∧zs.length≤cap∧SlOwn ssL 7 (w.heap.size+1+1+1) wr a zs);have o1:wr.cell? ⟨w.heap.size+1+1,1,none⟩=some (.slice sa zs.length sc):=by have:=hS.o.cell (j:=1) (v:=sv) rfl; rw [hsv] at this; exact this
      have HSV:Hid (sv=.slice sa zs.length sc):=hsv;have HZL':(zs.length:Int)≤1048576:=by have:=HZL.out; omega
      clear hS z0 hsv;by_cases hkl:k < zs.length
      ·obtain ⟨bs,os,rfl,hbs,hats⟩:=hso.is.at hkl;have HATS:Hid (∀ W,Below wr.heap.size wr W→W.rangeAt bs (os+k*7) (ssL zs[k])):=fun W hW=>(hats.below hbs hW) k hkl
       have HSK:Hid _:=any_take (fun s=>hasS y s) zs k hkl;obtain ⟨s,hs⟩ : ∃ s,s=zs[k]:=⟨_,rfl⟩;rw [← hs] at HATS HSK;have HHS:Hid (∀ W,Calls Tryz.prog 102 #[bdC y,ssC s] W fun e w'=>e=.returned (.bool (hasS y s))∧Below W.heap.size W w'):=fun W=>spHas_any y s W
       have hklI:(k:Int) < (zs.length:Int):=by omega
       generalize (zs.take k).any (fun s=>hasS y s)=hb0 at *;unfold bdC ssC at HHS;clear hats hbs hs hso;go_upto_region 14 with fail
       cases hb0 with
       | false =>
        refine wp_region_growV [50,51,52,53,54,55,56,57,58,59,60,61,62,63] (by kernel_rfl) (by kernel_rfl) ?_;apply GChV.v0
        ·rfl
        ·intro K' a wy ho hd hb hK kz;have o8:=ho 8 (by decide);simp [slot] at o8;clear hd ho;go_simp;try go_bits
         exact kz _ rfl
        apply GChV.v1
        ·rfl
        ·intro K' a wy ho hd hb hK kz;have q0:=hd ⟨0,.data⟩ (by simp) rfl;simp [rAt,IsV,slot] at q0;clear hd ho;go_simp;try go_bits
         exact kz _ rfl
        refine GChV.val (n:=2) (fun v=>[_,_,IsV v]) (fun _=>rfl) rfl ?_;apply Exists.intro;refine And.intro ?_ ?_
        ·intro K' a wy ho hd hb hK;refine wants 1 51 false false rfl rfl rfl (hd ⟨1,.guard⟩ (by simp) rfl) rfl ?_;have o2:=ho 2 (by decide);simp [slot] at o2;clear hd ho;go_simp;try go_bits
         exact hK _ _ rfl (Below.refl _ _)
        refine GChV.val (n:=3) (fun v=>[_,_,_,IsV v]) (fun _=>rfl) rfl ?_;apply Exists.intro;refine And.intro ?_ ?_
        ·intro K' a wy ho hd hb hK;refine wants 1 51 false false rfl rfl rfl (hd ⟨1,.guard⟩ (by simp) rfl) rfl ?_;have q2:=hd ⟨2,.data⟩ (by simp) rfl;simp [rAt,IsV,slot] at q2;clear hd ho;have kx:=(S3.out.drew.kept (by simp) hb); have k0:=kx.x.cell (j:=0) rfl; have ko:wy.cell? ⟨w.heap.size+1+1,1,none⟩=some (.slice (some ⟨bs,os,none⟩) zs.length sc):=(by have:=kx.o.cell (j:=1) (v:=sv) rfl; rw [HSV.out] at this; exact this); have ra:=HATA.out wy kx.b; have rs:=HATS.out wy ((Below.refl _ wr).drew.trans hb); have a0:wy.cell? ⟨ba,oa+i*5,none⟩=some (.int .i64 y.proto):=ra 0 _ rfl; have a1:wy.cell? ⟨ba,oa+i*5+1,none⟩=some (.string y.inn):=ra 1 _ rfl; have a2:wy.cell? ⟨ba,oa+i*5+2,none⟩=some (.int .i64 y.inPort):=ra 2 _ rfl; have a3:wy.cell? ⟨ba,oa+i*5+3,none⟩=some (.string y.out):=ra 3 _ rfl; have a4:wy.cell? ⟨ba,oa+i*5+4,none⟩=some (.int .i64 y.outPort):=ra 4 _ rfl; have s0:wy.cell? ⟨bs,os+k*7,none⟩=some (.int .i64 s.proto):=rs 0 _ rfl; have s1:wy.cell? ⟨bs,os+k*7+1,none⟩=some (.string s.inn):=rs 1 _ rfl; have s2:wy.cell? ⟨bs,os+k*7+2,none⟩=some (.int .i64 s.inPort):=rs 2 _ rfl; have s3:wy.cell? ⟨bs,os+k*7+3,none⟩=some (.string s.peer):=rs 3 _ rfl; have s4:wy.cell? ⟨bs,os+k*7+4,none⟩=some (.int .i64 s.peerPort):=rs 4 _ rfl; have s5:wy.cell? ⟨bs,os+k*7+5,none⟩=some (.int .i64 s.state):=rs 5 _ rfl; have s6:wy.cell? ⟨bs,os+k*7+6,none⟩=some (.int .i64 s.untl):=rs 6 _ rfl; clear ra rs kx;go_simp;try go_bits
         exact hK _ _ rfl (Below.refl _ _)
        refine GChV.val (n:=4) (fun v=>[_,_,_,_,IsV v]) (fun _=>rfl) rfl ?_;apply Exists.intro;refine And.intro ?_ ?_
        ·intro K' a wy ho hd hb hK;refine wants 1 51 false false rfl rfl rfl (hd ⟨1,.guard⟩ (by simp) rfl) rfl ?_;have o7:=ho 7 (by decide);simp [slot] at o7;clear hd ho;go_simp;try go_bits
         exact hK _ _ rfl (Below.refl _ _)
        refine GChV.val (n:=5) (fun v=>[_,_,_,_,_,IsV v]) (fun _=>rfl) rfl ?_;apply Exists.intro;refine And.intro ?_ ?_
        ·intro K' a wy ho hd hb hK;refine wants 1 51 false false rfl rfl rfl (hd ⟨1,.guard⟩ (by simp) rfl) rfl ?_;have q3:=hd ⟨3,.data⟩ (by simp) rfl;simp [rAt,IsV,slot] at q3;have q4:=hd ⟨4,.data⟩ (by simp) rfl;simp [rAt,IsV,slot] at q4;clear hd ho;go_simp;try go_bits
         exact hK _ _ rfl (Below.refl _ _)
        refine GChV.val (n:=6) (fun v=>[_,_,_,_,_,_,IsV v]) (fun _=>rfl) rfl ?_;apply Exists.intro;refine And.intro ?_ ?_
        ·intro K' a wy ho hd hb hK;refine wants 1 51 false false rfl rfl rfl (hd ⟨1,.guard⟩ (by simp) rfl) rfl ?_;have q5:=hd ⟨5,.data⟩ (by simp) rfl;simp [rAt,IsV,slot] at q5;clear hd ho;have kx:=(S3.out.drew.kept (by simp) hb); have k0:=kx.x.cell (j:=0) rfl; have ko:wy.cell? ⟨w.heap.size+1+1,1,none⟩=some (.slice (some ⟨bs,os,none⟩) zs.length sc):=(by have:=kx.o.cell (j:=1) (v:=sv) rfl; rw [HSV.out] at this; exact this); have ra:=HATA.out wy kx.b; have rs:=HATS.out wy ((Below.refl _ wr).drew.trans hb); have a0:wy.cell? ⟨ba,oa+i*5,none⟩=some (.int .i64 y.proto):=ra 0 _ rfl; have a1:wy.cell? ⟨ba,oa+i*5+1,none⟩=some (.string y.inn):=ra 1 _ rfl; have a2:wy.cell? ⟨ba,oa+i*5+2,none⟩=some (.int .i64 y.inPort):=ra 2 _ rfl; have a3:wy.cell? ⟨ba,oa+i*5+3,none⟩=some (.string y.out):=ra 3 _ rfl; have a4:wy.cell? ⟨ba,oa+i*5+4,none⟩=some (.int .i64 y.outPort):=ra 4 _ rfl; have s0:wy.cell? ⟨bs,os+k*7,none⟩=some (.int .i64 s.proto):=rs 0 _ rfl; have s1:wy.cell? ⟨bs,os+k*7+1,none⟩=some (.string s.inn):=rs 1 _ rfl; have s2:wy.cell? ⟨bs,os+k*7+2,none⟩=some (.int .i64 s.inPort):=rs 2 _ rfl; have s3:wy.cell? ⟨bs,os+k*7+3,none⟩=some (.string s.peer):=rs 3 _ rfl; have s4:wy.cell? ⟨bs,os+k*7+4,none⟩=some (.int .i64 s.peerPort):=rs 4 _ rfl; have s5:wy.cell? ⟨bs,os+k*7+5,none⟩=some (.int .i64 s.state):=rs 5 _ rfl; have s6:wy.cell? ⟨bs,os+k*7+6,none⟩=some (.int .i64 s.untl):=rs 6 _ rfl; clear ra rs kx;go_simp;try go_bits
         exact hK _ _ rfl (Below.refl _ _)
        refine GChV.val (n:=7) (fun v=>[_,_,_,_,_,_,_,IsV v]) (fun _=>rfl) rfl ?_;apply Exists.intro;refine And.intro ?_ ?_
        ·intro K' a wy ho hd hb hK;refine wants 1 51 false false rfl rfl rfl (hd ⟨1,.guard⟩ (by simp) rfl) rfl ?_;have o5:=ho 5 (by decide);simp [slot] at o5;clear hd ho;go_simp;try go_bits
         exact hK _ _ rfl (Below.refl _ _)
        refine GChV.val (n:=8) (fun v=>[_,_,_,_,_,_,_,_,IsV v]) (fun _=>rfl) rfl ?_;apply Exists.intro;refine And.intro ?_ ?_
        ·intro K' a wy ho hd hb hK;refine wants 1 51 false false rfl rfl rfl (hd ⟨1,.guard⟩ (by simp) rfl) rfl ?_;have q7:=hd ⟨7,.data⟩ (by simp) rfl;simp [rAt,IsV,slot] at q7;clear hd ho;have kx:=(S3.out.drew.kept (by simp) hb); have k0:=kx.x.cell (j:=0) rfl; have ko:wy.cell? ⟨w.heap.size+1+1,1,none⟩=some (.slice (some ⟨bs,os,none⟩) zs.length sc):=(by have:=kx.o.cell (j:=1) (v:=sv) rfl; rw [HSV.out] at this; exact this); have ra:=HATA.out wy kx.b; have rs:=HATS.out wy ((Below.refl _ wr).drew.trans hb); have a0:wy.cell? ⟨ba,oa+i*5,none⟩=some (.int .i64 y.proto):=ra 0 _ rfl; have a1:wy.cell? ⟨ba,oa+i*5+1,none⟩=some (.string y.inn):=ra 1 _ rfl; have a2:wy.cell? ⟨ba,oa+i*5+2,none⟩=some (.int .i64 y.inPort):=ra 2 _ rfl; have a3:wy.cell? ⟨ba,oa+i*5+3,none⟩=some (.string y.out):=ra 3 _ rfl; have a4:wy.cell? ⟨ba,oa+i*5+4,none⟩=some (.int .i64 y.outPort):=ra 4 _ rfl; have s0:wy.cell? ⟨bs,os+k*7,none⟩=some (.int .i64 s.proto):=rs 0 _ rfl; have s1:wy.cell? ⟨bs,os+k*7+1,none⟩=some (.string s.inn):=rs 1 _ rfl; have s2:wy.cell? ⟨bs,os+k*7+2,none⟩=some (.int .i64 s.inPort):=rs 2 _ rfl; have s3:wy.cell? ⟨bs,os+k*7+3,none⟩=some (.string s.peer):=rs 3 _ rfl; have s4:wy.cell? ⟨bs,os+k*7+4,none⟩=some (.int .i64 s.peerPort):=rs 4 _ rfl; have s5:wy.cell? ⟨bs,os+k*7+5,none⟩=some (.int .i64 s.state):=rs 5 _ rfl; have s6:wy.cell? ⟨bs,os+k*7+6,none⟩=some (.int .i64 s.untl):=rs 6 _ rfl; clear ra rs kx;go_simp;try go_bits
         exact hK _ _ rfl (Below.refl _ _)
        refine GChV.val (n:=9) (fun v=>[_,_,_,_,_,_,_,_,_,IsV v]) (fun _=>rfl) rfl ?_;apply Exists.intro;refine And.intro ?_ ?_
        ·intro K' a wy ho hd hb hK;refine wants 1 51 false false rfl rfl rfl (hd ⟨1,.guard⟩ (by simp) rfl) rfl ?_;have o9:=ho 9 (by decide);simp [slot] at o9;clear hd ho;go_simp;try go_bits
         exact hK _ _ rfl (Below.refl _ _)
        refine GChV.val (n:=10) (fun v=>[_,_,_,_,_,_,_,_,_,_,IsV v]) (fun _=>rfl) rfl ?_;apply Exists.intro;refine And.intro ?_ ?_
        ·intro K' a wy ho hd hb hK;refine wants 1 51 false false rfl rfl rfl (hd ⟨1,.guard⟩ (by simp) rfl) rfl ?_;have q8:=hd ⟨8,.data⟩ (by simp) rfl;simp [rAt,IsV,slot] at q8;have q9:=hd ⟨9,.data⟩ (by simp) rfl;simp [rAt,IsV,slot] at q9;clear hd ho;go_simp;try go_bits
         exact hK _ _ rfl (Below.refl _ _)
        refine GChV.val (n:=11) (fun v=>[_,_,_,_,_,_,_,_,_,_,_,IsV v]) (fun _=>rfl) rfl ?_;apply Exists.intro;refine And.intro ?_ ?_
        ·intro K' a wy ho hd hb hK;refine wants 1 51 false false rfl rfl rfl (hd ⟨1,.guard⟩ (by simp) rfl) rfl ?_;have q10:=hd ⟨10,.data⟩ (by simp) rfl;simp [rAt,IsV,slot] at q10;clear hd ho;have kx:=(S3.out.drew.kept (by simp) hb); have k0:=kx.x.cell (j:=0) rfl; have ko:wy.cell? ⟨w.heap.size+1+1,1,none⟩=some (.slice (some ⟨bs,os,none⟩) zs.length sc):=(by have:=kx.o.cell (j:=1) (v:=sv) rfl; rw [HSV.out] at this; exact this); have ra:=HATA.out wy kx.b; have rs:=HATS.out wy ((Below.refl _ wr).drew.trans hb); have a0:wy.cell? ⟨ba,oa+i*5,none⟩=some (.int .i64 y.proto):=ra 0 _ rfl; have a1:wy.cell? ⟨ba,oa+i*5+1,none⟩=some (.string y.inn):=ra 1 _ rfl; have a2:wy.cell? ⟨ba,oa+i*5+2,none⟩=some (.int .i64 y.inPort):=ra 2 _ rfl; have a3:wy.cell? ⟨ba,oa+i*5+3,none⟩=some (.string y.out):=ra 3 _ rfl; have a4:wy.cell? ⟨ba,oa+i*5+4,none⟩=some (.int .i64 y.outPort):=ra 4 _ rfl; have s0:wy.cell? ⟨bs,os+k*7,none⟩=some (.int .i64 s.proto):=rs 0 _ rfl; have s1:wy.cell? ⟨bs,os+k*7+1,none⟩=some (.string s.inn):=rs 1 _ rfl; have s2:wy.cell? ⟨bs,os+k*7+2,none⟩=some (.int .i64 s.inPort):=rs 2 _ rfl; have s3:wy.cell? ⟨bs,os+k*7+3,none⟩=some (.string s.peer):=rs 3 _ rfl; have s4:wy.cell? ⟨bs,os+k*7+4,none⟩=some (.int .i64 s.peerPort):=rs 4 _ rfl; have s5:wy.cell? ⟨bs,os+k*7+5,none⟩=some (.int .i64 s.state):=rs 5 _ rfl; have s6:wy.cell? ⟨bs,os+k*7+6,none⟩=some (.int .i64 s.untl):=rs 6 _ rfl; clear ra rs kx;go_simp;try go_bits
         exact hK _ _ rfl (Below.refl _ _)
        refine GChV.val (n:=12) (fun v=>[_,_,_,_,_,_,_,_,_,_,_,_,IsV v]) (fun _=>rfl) rfl ?_;apply Exists.intro;refine And.intro ?_ ?_
        ·intro K' a wy ho hd hb hK;refine wants 1 51 false false rfl rfl rfl (hd ⟨1,.guard⟩ (by simp) rfl) rfl ?_;have q6:=hd ⟨6,.data⟩ (by simp) rfl;simp [rAt,IsV,slot] at q6;have q11:=hd ⟨11,.data⟩ (by simp) rfl;simp [rAt,IsV,slot] at q11;clear hd ho;go_simp;refine (HHS.out wy).mono ?_;rintro e wz ⟨rfl,hz⟩;exact hK _ _ rfl hz
        apply GChV.v13
        ·rfl
        ·intro K' a wy ho hd hb hK kz;have q1:=hd ⟨1,.data⟩ (by simp) rfl;simp [rAt,IsV,slot] at q1;have q12:=hd ⟨12,.data⟩ (by simp) rfl;simp [rAt,IsV,slot] at q12;clear hd ho;go_simp;try go_bits
         exact kz _ rfl
        intro X wz hR hz;obtain ⟨x0,x1,x2,x3,x4,x5,x6,x7,x8,x9,x10,x11,x12,x13,-⟩:=hR;simp only [IsV] at x0 x1 x2 x3 x4 x5 x6 x7 x8 x9 x10 x11 x12 x13;simp only [putsFrom,x0,x1,x2,x3,x4,x5,x6,x7,x8,x9,x10,x11,x12,x13];clear x0 x1 x2 x3 x4 x5 x6 x7 x8 x9 x10 x11 x12 x13;simp only [List.length_cons,List.length_nil,List.drop_succ_cons,List.drop_zero,Nat.zero_add,Nat.reduceAdd];intro K9 hK9;go_simp;refine hK9 _ _ ?_;have SZ:Hid _:=S3.out.kept (by simp) ((Below.refl _ wr).drew.trans hz);clear hz o1;simp only [wpSeq];go_wp2_with fail
        go_roundw
        case rel=>exact ⟨k+1,by omega,by go_num,by rw [HSK.out]<;>rfl,SZ.out⟩
        case measure=>simp [intOf]; omega
       | true =>
        refine wp_region_growV [50,51,52,53,54,55,56,57,58,59,60,61,62,63] (by kernel_rfl) (by kernel_rfl) ?_;apply GChV.v0
        ·rfl
        ·intro K' a wy ho hd hb hK kz;have o8:=ho 8 (by decide);simp [slot] at o8;clear hd ho;go_simp;try go_bits
         exact kz _ rfl
        apply GChV.v1
        ·rfl
        ·intro K' a wy ho hd hb hK kz;have q0:=hd ⟨0,.data⟩ (by simp) rfl;simp [rAt,IsV,slot] at q0;clear hd ho;go_simp;try go_bits
         exact kz _ rfl
        refine GChV.val (n:=2) (fun v=>[_,_,IsV v]) (fun _=>rfl) rfl ?_;apply Exists.intro;refine And.intro ?_ ?_
        ·intro K' a wy ho hd hb hK;refine wantsN 1 51 true false rfl rfl rfl (hd ⟨1,.guard⟩ (by simp) rfl) rfl ?_;exact hK undef _ rfl (Below.refl _ _)
        refine GChV.val (n:=3) (fun v=>[_,_,_,IsV v]) (fun _=>rfl) rfl ?_;apply Exists.intro;refine And.intro ?_ ?_
        ·intro K' a wy ho hd hb hK;refine wantsN 1 51 true false rfl rfl rfl (hd ⟨1,.guard⟩ (by simp) rfl) rfl ?_;exact hK undef _ rfl (Below.refl _ _)
        refine GChV.val (n:=4) (fun v=>[_,_,_,_,IsV v]) (fun _=>rfl) rfl ?_;apply Exists.intro;refine And.intro ?_ ?_
        ·intro K' a wy ho hd hb hK;refine wantsN 1 51 true false rfl rfl rfl (hd ⟨1,.guard⟩ (by simp) rfl) rfl ?_;exact hK undef _ rfl (Below.refl _ _)
        refine GChV.val (n:=5) (fun v=>[_,_,_,_,_,IsV v]) (fun _=>rfl) rfl ?_;apply Exists.intro;refine And.intro ?_ ?_
        ·intro K' a wy ho hd hb hK;refine wantsN 1 51 true false rfl rfl rfl (hd ⟨1,.guard⟩ (by simp) rfl) rfl ?_;exact hK undef _ rfl (Below.refl _ _)
        refine GChV.val (n:=6) (fun v=>[_,_,_,_,_,_,IsV v]) (fun _=>rfl) rfl ?_;apply Exists.intro;refine And.intro ?_ ?_
        ·intro K' a wy ho hd hb hK;refine wantsN 1 51 true false rfl rfl rfl (hd ⟨1,.guard⟩ (by simp) rfl) rfl ?_;exact hK undef _ rfl (Below.refl _ _)
        refine GChV.val (n:=7) (fun v=>[_,_,_,_,_,_,_,IsV v]) (fun _=>rfl) rfl ?_;apply Exists.intro;refine And.intro ?_ ?_
        ·intro K' a wy ho hd hb hK;refine wantsN 1 51 true false rfl rfl rfl (hd ⟨1,.guard⟩ (by simp) rfl) rfl ?_;exact hK undef _ rfl (Below.refl _ _)
        refine GChV.val (n:=8) (fun v=>[_,_,_,_,_,_,_,_,IsV v]) (fun _=>rfl) rfl ?_;apply Exists.intro;refine And.intro ?_ ?_
        ·intro K' a wy ho hd hb hK;refine wantsN 1 51 true false rfl rfl rfl (hd ⟨1,.guard⟩ (by simp) rfl) rfl ?_;exact hK undef _ rfl (Below.refl _ _)
        refine GChV.val (n:=9) (fun v=>[_,_,_,_,_,_,_,_,_,IsV v]) (fun _=>rfl) rfl ?_;apply Exists.intro;refine And.intro ?_ ?_
        ·intro K' a wy ho hd hb hK;refine wantsN 1 51 true false rfl rfl rfl (hd ⟨1,.guard⟩ (by simp) rfl) rfl ?_;exact hK undef _ rfl (Below.refl _ _)
        refine GChV.val (n:=10) (fun v=>[_,_,_,_,_,_,_,_,_,_,IsV v]) (fun _=>rfl) rfl ?_;apply Exists.intro;refine And.intro ?_ ?_
        ·intro K' a wy ho hd hb hK;refine wantsN 1 51 true false rfl rfl rfl (hd ⟨1,.guard⟩ (by simp) rfl) rfl ?_;exact hK undef _ rfl (Below.refl _ _)
        refine GChV.val (n:=11) (fun v=>[_,_,_,_,_,_,_,_,_,_,_,IsV v]) (fun _=>rfl) rfl ?_;apply Exists.intro;refine And.intro ?_ ?_
        ·intro K' a wy ho hd hb hK;refine wantsN 1 51 true false rfl rfl rfl (hd ⟨1,.guard⟩ (by simp) rfl) rfl ?_;exact hK undef _ rfl (Below.refl _ _)
        refine GChV.val (n:=12) (fun v=>[_,_,_,_,_,_,_,_,_,_,_,_,IsV v]) (fun _=>rfl) rfl ?_;apply Exists.intro;refine And.intro ?_ ?_
        ·intro K' a wy ho hd hb hK;refine wantsN 1 51 true false rfl rfl rfl (hd ⟨1,.guard⟩ (by simp) rfl) rfl ?_;exact hK undef _ rfl (Below.refl _ _)
        apply GChV.v13
        ·rfl
        ·intro K' a wy ho hd hb hK kz;have q1:=hd ⟨1,.data⟩ (by simp) rfl;simp [rAt,IsV,slot] at q1;have q12:=hd ⟨12,.data⟩ (by simp) rfl;simp [rAt,IsV,slot] at q12;clear hd ho;go_simp;try go_bits
         exact kz _ rfl
        intro X wz hR hz;obtain ⟨x0,x1,x2,x3,x4,x5,x6,x7,x8,x9,x10,x11,x12,x13,-⟩:=hR;simp only [IsV] at x0 x1 x2 x3 x4 x5 x6 x7 x8 x9 x10 x11 x12 x13;simp only [putsFrom,x0,x1,x2,x3,x4,x5,x6,x7,x8,x9,x10,x11,x12,x13];clear x0 x1 x2 x3 x4 x5 x6 x7 x8 x9 x10 x11 x12 x13;simp only [List.length_cons,List.length_nil,List.drop_succ_cons,List.drop_zero,Nat.zero_add,Nat.reduceAdd];intro K9 hK9;go_simp;refine hK9 _ _ ?_;have SZ:Hid _:=S3.out.kept (by simp) ((Below.refl _ wr).drew.trans hz);clear hz o1;simp only [wpSeq];go_wp2_with fail
        go_roundw
        case rel=>exact ⟨k+1,by omega,by go_num,by rw [HSK.out]<;>rfl,SZ.out⟩
        case measure=>simp [intOf]; omega
      ·have hke:k=zs.length:=by omega
       rw [hke,List.take_length];clear hke
       cases hh:zs.any (fun s=>hasS y s) with
       | false =>
        have HF2:Hid ((x.binds.take (i+1)).filter (fun y=>zs.any fun s=>hasS y s)=ys):=by unfold Hid; rw [HFO.out,if_neg (by rw [hh]; decide)]
        clear hh HFO;go_wp2_with fail
        go_roundw
        case rel=>exact ⟨i+1,bv,by omega,by go_num,by rw [HF2.out]; exact S3.out⟩
        case measure=>simp [intOf]; omega
       | true =>
        have HF2:Hid ((x.binds.take (i+1)).filter (fun y=>zs.any fun s=>hasS y s)=ys++[y]):=by unfold Hid; rw [HFO.out,if_pos hh]
        clear hh HFO;go_upto_region 16 with fail
        clear o1 hso;refine wp_region_growV [65,66,67,68,69,70,71,72] (by kernel_rfl) (by kernel_rfl) ?_;apply GChV.v0
        ·rfl
        ·intro K' a wy ho hd hb hK kz;have o5:=ho 5 (by decide);simp [slot] at o5;clear hd ho;go_simp;try go_bits
         exact kz _ rfl
        apply GChV.v1
        ·rfl
        ·intro K' a wy ho hd hb hK kz;have q0:=hd ⟨0,.data⟩ (by simp) rfl;simp [rAt,IsV,slot] at q0;clear hd ho;have kx:=(S3.out.drew.kept (by simp) hb); have k0:=kx.x.cell (j:=0) rfl; have ko:wy.cell? ⟨w.heap.size+1+1,0,none⟩=some bv:=kx.o.cell rfl; have rs:=HATA.out wy kx.b; have s0:wy.cell? ⟨ba,oa+i*5,none⟩=some (.int .i64 y.proto):=rs 0 _ rfl; have s1:wy.cell? ⟨ba,oa+i*5+1,none⟩=some (.string y.inn):=rs 1 _ rfl; have s2:wy.cell? ⟨ba,oa+i*5+2,none⟩=some (.int .i64 y.inPort):=rs 2 _ rfl; have s3:wy.cell? ⟨ba,oa+i*5+3,none⟩=some (.string y.out):=rs 3 _ rfl; have s4:wy.cell? ⟨ba,oa+i*5+4,none⟩=some (.int .i64 y.outPort):=rs 4 _ rfl; clear rs kx;go_simp;try go_bits
         exact kz _ rfl
        apply GChV.v2
        ·rfl
        ·intro K' a wy ho hd hb hK kz;have o2:=ho 2 (by decide);simp [slot] at o2;clear hd ho;go_simp;try go_bits
         exact kz _ rfl
        apply GChV.v3
        ·rfl
        ·intro K' a wy ho hd hb hK kz;have q2:=hd ⟨2,.data⟩ (by simp) rfl;simp [rAt,IsV,slot] at q2;clear hd ho;have kx:=(S3.out.drew.kept (by simp) hb); have k0:=kx.x.cell (j:=0) rfl; have ko:wy.cell? ⟨w.heap.size+1+1,0,none⟩=some bv:=kx.o.cell rfl; have rs:=HATA.out wy kx.b; have s0:wy.cell? ⟨ba,oa+i*5,none⟩=some (.int .i64 y.proto):=rs 0 _ rfl; have s1:wy.cell? ⟨ba,oa+i*5+1,none⟩=some (.string y.inn):=rs 1 _ rfl; have s2:wy.cell? ⟨ba,oa+i*5+2,none⟩=some (.int .i64 y.inPort):=rs 2 _ rfl; have s3:wy.cell? ⟨ba,oa+i*5+3,none⟩=some (.string y.out):=rs 3 _ rfl; have s4:wy.cell? ⟨ba,oa+i*5+4,none⟩=some (.int .i64 y.outPort):=rs 4 _ rfl; clear rs kx;go_simp;try go_bits
         exact kz _ rfl
        apply GChV.v4
        ·rfl
        ·intro K' a wy ho hd hb hK kz;have o7:=ho 7 (by decide);simp [slot] at o7;clear hd ho;go_simp;try go_bits
         exact kz _ rfl
        apply GChV.v5
        ·rfl
        ·intro K' a wy ho hd hb hK kz;have q3:=hd ⟨3,.data⟩ (by simp) rfl;simp [rAt,IsV,slot] at q3;have q4:=hd ⟨4,.data⟩ (by simp) rfl;simp [rAt,IsV,slot] at q4;clear hd ho;go_simp;try go_bits
         exact kz _ rfl
        apply GChV.v6
        ·rfl
        ·intro K' a wy ho hd hb hK kz;have q5:=hd ⟨5,.data⟩ (by simp) rfl;simp [rAt,IsV,slot] at q5;clear hd ho;have kx:=(S3.out.drew.kept (by simp) hb); have k0:=kx.x.cell (j:=0) rfl; have ko:wy.cell? ⟨w.heap.size+1+1,0,none⟩=some bv:=kx.o.cell rfl; have rs:=HATA.out wy kx.b; have s0:wy.cell? ⟨ba,oa+i*5,none⟩=some (.int .i64 y.proto):=rs 0 _ rfl; have s1:wy.cell? ⟨ba,oa+i*5+1,none⟩=some (.string y.inn):=rs 1 _ rfl; have s2:wy.cell? ⟨ba,oa+i*5+2,none⟩=some (.int .i64 y.inPort):=rs 2 _ rfl; have s3:wy.cell? ⟨ba,oa+i*5+3,none⟩=some (.string y.out):=rs 3 _ rfl; have s4:wy.cell? ⟨ba,oa+i*5+4,none⟩=some (.int .i64 y.outPort):=rs 4 _ rfl; clear rs kx;go_simp;try go_bits
         exact kz _ rfl
        refine GChV.rel (n:=7) (IsOneC (bdL y)) (stable_isOneC _ (by simp [bdL])) [_,_,_,_,_,_,_,IsOneC (bdL y)] rfl rfl ?_ ?_
        ·intro K' a wy ho hd hb hK;rw [if_pos (wanted_none rfl)];have q6:=hd ⟨6,.data⟩ (by simp) rfl;simp [rAt,IsV,slot] at q6;clear hd ho;go_simp;exact hK _ _ ⟨wy.heap.size,rfl,HoldsL.new wy (bdL y) _⟩ ((Below.refl _ _).alloc (Nat.le_refl _) _)
        intro X wz hR hz;obtain ⟨x0,x1,x2,x3,x4,x5,x6,x7,-⟩:=hR;have hk7:=x7;clear hk7;simp only [IsV] at x0 x1 x2 x3 x4 x5 x6;simp only [putsFrom,x0,x1,x2,x3,x4,x5,x6,putsFrom];clear x0 x1 x2 x3 x4 x5 x6;obtain ⟨g7,e7,r7⟩:=x7;have SZ:=S3.out.kept (by simp) ((Below.refl _ _).drew.trans hz);obtain ⟨v6,w6,hrun,⟨gg,l6,c6,rfl⟩,hO6,S6⟩:=SZ.appB (by simp) y g7 r7 hfl;have HRUN:Hid _:=hrun;have HS6:Hid _:=S6;have p1:w6.cell? ⟨w.heap.size+1+1,0,none⟩=some bv:=hO6.cell rfl;have p2:=hO6.free (j:=0) (by simp);clear hrun S6 hO6 SZ r7 hz;simp only [e7];simp only [List.length_cons,List.length_nil,List.drop_succ_cons,List.drop_zero,Nat.zero_add,Nat.reduceAdd];intro K5 hK5;with_reducible refine wp_append_run (.tmp 66) (.tmp 72) _ rfl ?_ ?_ HRUN.out (hK5 _ _ ?_)
        ·simp [Act.eval,Act.put]
        ·simp [Act.eval,Act.put]
        intro K6 hK6;go_simp;refine hK6 _ _ ?_;intro K7 hK7;go_simp;refine hK7 _ _ ?_;simp only [wpSeq];go_wp2_with fail
        go_roundw
        case rel =>
         first | exact ⟨i+1,_,by omega,by go_num,by rw [HF2.out]; exact HS6.out⟩ | ((repeat apply Exists.intro); exact ⟨⟨i+1,_,by omega,by go_num,by rw [HF2.out]; exact HS6.out⟩,rfl⟩)
        case measure=>simp [intOf]<;>omega
    ·have hie:i=x.binds.length:=by omega
     rw [hie,List.take_length] at S2;generalize x.binds.filter (fun y=>zs.any fun s=>hasS y s)=ys at *;have R1:Hid (HoldsL ((w0.setCell ⟨w.heap.size+1,0,none⟩ bv).setCell ⟨w.heap.size+1,1,none⟩ sv) (w.heap.size+1) [bv,sv]):=(S2.out.r.set 0 bv).set 1 sv;have RB:Hid _:=(S2.out.b.setCell (p:=⟨w.heap.size+1,0,none⟩) (by show w.heap.size≤w.heap.size+1; omega) bv).setCell (p:=⟨w.heap.size+1,1,none⟩) (by show w.heap.size≤w.heap.size+1; omega) sv;have bo:=ownC_cell (X:=w.heap.size+1) (j:=1) (u:=sv) (ownC_cell (X:=w.heap.size+1) (j:=0) (u:=bv) S2.out.bo (ownC_ne S2.out.bo (by omega))) (ownC_ne S2.out.bo (by omega));have so:=ownC_cell (X:=w.heap.size+1) (j:=1) (u:=sv) (ownC_cell (X:=w.heap.size+1) (j:=0) (u:=bv) S2.out.so (ownC_ne S2.out.so (by omega))) (ownC_ne S2.out.so (by omega));have HNE:Hid (∀ g,bv.ownBlock=some g→sv.ownBlock=some g→False):=S2.out.ne;have p0:w0.cell? ⟨w.heap.size+1+1,0,none⟩=some bv:=S2.out.o.cell rfl;have p1:w0.cell? ⟨w.heap.size+1+1,1,none⟩=some sv:=S2.out.o.cell rfl;obtain ⟨r0,r1⟩:=S2.out.r.c2;obtain ⟨g0,g1⟩:=S2.out.r.f2;obtain ⟨ab,cb1,hbv,_,hbo⟩:=(Row.shape bdL_length (w0:=_) ⟨bo,Below.refl _ _⟩ : ∃ a cap,bv=.slice a ys.length cap∧ys.length≤cap∧SlOwn bdL 5 (w.heap.size+1+1+1) _ a ys);obtain ⟨sb,cs1,hsv,_,hso⟩:=(Row.shape ssL_length (w0:=_) ⟨so,Below.refl _ _⟩ : ∃ a cap,sv=.slice a zs.length cap∧zs.length≤cap∧SlOwn ssL 7 (w.heap.size+1+1+1) _ a zs);subst hbv hsv;have HOW:Hid (BbOwn w.heap.size _ ab sb ⟨ys,zs⟩):=⟨hbo.down (by omega),hso.down (by omega),fun g h e1 e2 _ _ e3=>HNE.out g (by rw [e1]; rfl) (by rw [e2,← e3]; rfl)⟩;clear bo so hbo hso S2 hie;go_wp2_with fail
     exact bodyPost_ret (results_mid Tryz.results68 _ _ (w.heap.size+1) [.slice ab ys.length cb1,.slice sb zs.length cs1] _ rfl R1.out Tryz.underlying36 rfl (show (Tryz.prog.info? 36).map (·.size)=some 2 by kernel_rfl)) rfl (by rw [HTV.out]; exact ⟨⟨ab,sb,cb1,cs1,rfl,HOW.out⟩,RB.out⟩)
end Go.Proofs.YthagnjokdnnmpaaGreat
