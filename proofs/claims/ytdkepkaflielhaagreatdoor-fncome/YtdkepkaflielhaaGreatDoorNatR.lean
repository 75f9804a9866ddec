import Derived.Test.YtdkepkaflielhaaGreatDoorAb
import Derived.Test.YtdkepkaflielhaaGreatDoorNatM
import Derived.Test.YtdkepkaflielhaaGreatDoorTouchL
import Derived.Test.YtdkepkaflielhaaGreatDoorCSetM
set_option linter.unusedVariables false
set_option linter.unusedSimpArgs false
set_option maxRecDepth 100000
set_option maxHeartbeats 8000000
namespace Go.Proofs.YtdkepkaflielhaaGreatDoor
open Go.RowKit Go.PlainAid
theorem ofFl_zero {s d:ByteArray} {p:Int} {t:ByteArray} (h:ofCode s.size p t=0):(ofFl s d p t).proto=p∧(ofFl s d p t).src=s∧(ofFl s d p t).dst=d∧(0≤(ofFl s d p t).sp∧(ofFl s d p t).sp≤65535)∧(0≤(ofFl s d p t).dp∧(ofFl s d p t).dp≤65535)∧(echoP p=true→(ofFl s d p t).sp=(ofFl s d p t).dp):=by
 unfold ofFl;rw [if_pos h];have w0:=wordN_range (bt_isByte t) 0;have w2:=wordN_range (bt_isByte t) 2;have w4:=wordN_range (bt_isByte t) 4;by_cases he:echoP p=true
 ·rw [if_pos he]; exact ⟨rfl,rfl,rfl,w4,w4,fun _=>rfl⟩
 ·rw [if_neg he]; exact ⟨rfl,rfl,rfl,w0,w2,fun h=>absurd h he⟩
theorem proto_of {n:Nat} {p:Int} {t:ByteArray} (h:ofCode n p t=0):protoOk p n=true:=by
 unfold ofCode at h;by_cases h3:protoOk p n=false
 ·rw [if_pos h3] at h; simp at h
 ·simpa using h3
theorem proto_four {p:Int} (h:protoOk p 4=true):p=6∨p=17∨p=1:=by
 unfold protoOk at h;simp only [Bool.or_eq_true,Bool.and_eq_true,decide_eq_true_iff] at h;omega
theorem flowOk_of {s d:ByteArray} {p:Int} {t:ByteArray} (h:ofCode s.size p t=0) (hp:pairOk s d=true):flowOk (ofFl s d p t)=true:=by
 obtain ⟨h1,h2,h3,h4,h5,h6⟩:=ofFl_zero (d:=d) h;unfold flowOk;rw [h1,h2,h3,hp,proto_of h,isW_yes h4.1 h4.2,isW_yes h5.1 h5.2];by_cases he:echoP p=true
 ·simp [he,h6 he]
 ·simp [he]
theorem flag_byte (p:Int) (t:ByteArray):isIn (flagV p t) 0 255=true:=by
 unfold flagV isIn;have:=bt_isByte t 13;split<;>simp<;>omega
theorem peer_word {p n:Int} (h:0≤n∧n≤65535):isW (peerV p n)=true:=by
 unfold peerV; split
 ·decide
 ·exact isW_yes h.1 h.2
theorem addr_four {s:ByteArray} (h:s.size=4):addrOk s=true:=by unfold addrOk; simp [h]
theorem pair_four {s d:ByteArray} (hs:s.size=4) (hd:d.size=4):pairOk s d=true:=by unfold pairOk; rw [addr_four hs]; simp [hs,hd]
theorem protoB_four {p:Int} (h:p=6∨p=17∨p=1):protoB p=true∧protoN p=p:=by
 rcases h with rfl | rfl | rfl<;>decide
theorem comeT_ok {s d:ByteArray} {p:Int} {t:ByteArray} (hs:s.size=4) (hd:d.size=4) (h:ofCode s.size p t=0):touchOk (comeT (ofFl s d p t) t)=true:=by
 obtain ⟨h1,h2,h3,h4,h5,h6⟩:=ofFl_zero (d:=d) h;have hp:=proto_four (hs ▸ proto_of h);unfold touchOk comeT;dsimp only;rw [h1,h2,h3,(protoB_four hp).1,addr_four hd,isW_yes h5.1 h5.2,peer_word h4,flag_byte];simp [hs,hd]
theorem bind_ends {p:Pl} {x:Bb} {t:Tc} {now:Int} (h:bibOk p x=true) (hn:isTime now=true) (ht:touchOk t=true) (hc:(goV p x t now).code=0) :
  (goV p x t now).bind.out.size=4∧(0≤(goV p x t now).bind.outPort∧(goV p x t now).bind.outPort≤65535)∧((goV p x t now).bind.inn.size=4∨(goV p x t now).bind.inn.size=16)∧(0≤(goV p x t now).bind.inPort∧(goV p x t now).bind.inPort≤65535)∧(t.inside=true→(goV p x t now).bind.inn=t.addr):=by
 obtain ⟨g1,g2,g3,g4,g5⟩:=go_right (bibR_iff.1 h) hn ht hc;have hb:=(bind_iff.1 g1.bind).1 _ g3;unfold bindP at hb;simp only [Bool.and_eq_true] at hb;have hpl:=g1.pool;have hpo:1≤p.low∧p.high≤65535:=by
  unfold poolOk at hpl;simp only [Bool.and_eq_true,decide_eq_true_iff] at hpl;exact ⟨hpl.1.1.1.1.1.1.2,hpl.1.1.1.1.2⟩
 have ho:=isIn_parts hb.2;have hw:0≤(goV p x t now).bind.inPort∧(goV p x t now).bind.inPort≤65535:=by simpa [isW] using hb.1.1.2
 have hsz:(goV p x t now).bind.out.size=4:=by
  unfold poolOk at hpl;simp only [Bool.and_eq_true] at hpl;have hu:=upN_iff.1 hpl.2;have hs:=hb.1.2;unfold inL at hs;obtain ⟨u,hu1,hu2⟩:=List.any_eq_true.1 hs;obtain ⟨i,hi,rfl⟩:=List.getElem_of_mem hu1;have h1:=hu i hi;unfold addrOne at h1;simp only [Bool.and_eq_true,decide_eq_true_iff] at h1 hu2;have:p.addrs[i].size=(goV p x t now).bind.out.size:=by
   have:=congrArg List.length hu2;simpa [ByteArray.toList_eq] using this
  omega
 exact ⟨hsz,⟨by omega,by omega⟩,addrOk_size hb.1.1.1.2,hw,fun hi=>congrArg En.addr (g4 hi)⟩
theorem kind_right {f g:Fl} (hf:flowOk f=true) (hfs:f.src.size=4) (hgs:g.src.size=4) (hgd:g.dst.size=4) (hp:g.proto=f.proto) (h1:0≤g.sp∧g.sp≤65535) (h2:0≤g.dp∧g.dp≤65535):flowOk (kindF f g)=true∧(kindF f g).proto=f.proto∧(kindF f g).src=g.src∧(kindF f g).dst=g.dst:=by
 have hpo:protoOk f.proto 4=true:=by unfold flowOk at hf; simp only [Bool.and_eq_true] at hf; rw [hfs] at hf; exact hf.1.1.1.2
 unfold kindF;by_cases he:echoP f.proto=true
 ·rw [if_pos he];have e1:f.proto=1:=by
   have:=proto_four hpo;unfold echoP at he;simp only [Bool.or_eq_true,decide_eq_true_iff] at he;omega
  rw [if_neg (by omega)];refine ⟨?_,e1.symm,rfl,rfl⟩;unfold flowOk;dsimp only;rw [pair_four hgs hgd,isW_yes h1.1 h1.2,hgs,show protoOk 1 4=true by decide]; simp
 ·rw [if_neg he];refine ⟨?_,hp,rfl,rfl⟩;unfold flowOk;rw [pair_four hgs hgd,hp,hgs,hpo,isW_yes h1.1 h1.2,isW_yes h2.1 h2.2]; simp [he]
theorem setD_four {s d:ByteArray} {p:Int} {t:ByteArray} {g:Fl} (h:ofCode s.size p t=0) (hs:s.size=4) (hd:d.size=4) (ht:t.size≤20000) (hg:flowOk g=true) (hp:g.proto=p) (hgs:g.src.size=4):setData (ofFl s d p t) g t=setD (ofFl s d p t) g t∧setCode (ofFl s d p t) g t=0:=by
 obtain ⟨h1,h2,h3,h4,h5,h6⟩:=ofFl_zero (d:=d) h;have hin:setIn (ofFl s d p t) g t=true:=by
  unfold setIn;rw [flowOk_of h (pair_four hs hd),hg,h1,h2,h3,hp,h]; simp
 have hc:setCode (ofFl s d p t) g t=0:=by
  unfold setCode;rw [if_neg (by omega),if_neg (by rw [hin]; simp),if_neg];rintro ⟨_,h16⟩; omega
 refine ⟨?_,hc⟩;unfold setData setD;rw [hc,if_pos rfl];by_cases hb:bareUdp (ofFl s d p t) t=true
 ·rw [if_pos hb,if_pos hb,if_neg (by omega)]
 ·rw [if_neg hb,if_neg hb]
end Go.Proofs.YtdkepkaflielhaaGreatDoor
