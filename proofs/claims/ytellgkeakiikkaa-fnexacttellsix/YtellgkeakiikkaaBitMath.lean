import Derived.Test.YtellgkeakiikkaaMath
import Derived.Test.YtellgkeakiikkaaPkt
set_option linter.unusedVariables false
set_option linter.unusedSimpArgs false
set_option maxRecDepth 100000
set_option maxHeartbeats 8000000
namespace Go.Proofs.Ytellgkeakiikkaa
open Go.RowKit Go.PlainAid
theorem mask_k (k:Nat) (hk:k < 63) (x:Int) (h0:0≤x) (h1:x < 9223372036854775808):bits .and .i64 x (2 ^ k-1)=x % 2 ^ k :=
 bits_mask .i64 63 (by decide) wraps_i64 k (Nat.le_of_lt hk) x h0 (by omega)
theorem mask16 (x:Int) (h0:0≤x) (h1:x≤4294967295):bits .and .i64 x 65535=x % 65536:=by
 have h:=mask_k 16 (by decide) x h0 (by omega);rw [show ((2:Int) ^ 16-1)=65535 by decide,show ((2:Int) ^ 16)=65536 by decide] at h;exact h
theorem firstN_bits (p:P6) (h1:0≤p.cls∧p.cls≤255) (h2:0≤p.flow∧p.flow≤1048575) :
  bits .or .i64 (bits .or .i64 1610612736 (p.cls*1048576)) p.flow=firstN p:=by
 have e1:bits .or .i64 1610612736 (p.cls*1048576)=1610612736+p.cls*1048576 :=
  bits_join .i64 63 (by decide) wraps_i64 28 1610612736 (p.cls*1048576) (by omega) (by omega) (by omega) (by omega) (by omega) (by omega)
 rw [e1];have e2:bits .or .i64 (1610612736+p.cls*1048576) p.flow=1610612736+p.cls*1048576+p.flow :=
  bits_join .i64 63 (by decide) wraps_i64 20 (1610612736+p.cls*1048576) p.flow (by omega) (by omega) (by omega) (by omega) (by omega) (by omega)
 rw [e2]; unfold firstN; omega
theorem v6Ok_parts {p:P6} (h:v6Ok p=true):(0≤p.cls∧p.cls≤255)∧(0≤p.next∧p.next≤255)∧(0≤p.hops∧p.hops≤255)∧(0≤p.flow∧p.flow≤1048575)∧p.src.size=16∧p.dst.size=16∧p.data.size≤1400 ∧
  (p.piece=true→(0≤p.off∧p.off≤8191)∧(0≤p.id∧p.id≤4294967295)∧8*p.off+p.data.size≤65535):=by
 unfold v6Ok at h;rw [Bool.and_eq_true] at h;obtain ⟨ha,hb⟩:=h;unfold v6A at ha;simp only [Bool.and_eq_true,decide_eq_true_iff] at ha;obtain ⟨⟨⟨⟨⟨⟨⟨h1,h2⟩,h3⟩,h4⟩,h5⟩,h6⟩,h7⟩,_⟩:=ha;refine ⟨isIn_parts h1,isIn_parts h2,isIn_parts h3,isIn_parts h4,h5,h6,h7,fun hp=>?_⟩;unfold v6B at hb;rw [if_pos hp] at hb;simp only [Bool.and_eq_true,decide_eq_true_iff] at hb;obtain ⟨⟨⟨g1,g2⟩,_⟩,g4⟩:=hb;exact ⟨isIn_parts g1,isIn_parts g2,g4⟩
end Go.Proofs.Ytellgkeakiikkaa
