/- IV4A: what the program's isByte and pieceRight answer. -/
import Derived.Test.YtkakehchiadpbalLawV4
import Derived.Test.YtkakehchiadpbalK3
import Derived.Deep.DeepCutAuto
namespace Go.Proofs.Ytkakehchiadpbal
open Go.RowKit Go.PlainAid
set_option linter.unusedVariables false
set_option linter.unusedSimpArgs false


/-- What pieceRight answers. -/
def pcV (off : Int) (more : Bool) (data : ByteArray) (top : Int) : Bool := isIn off 0 8191 && decide (data.size ≤ 1400) && (!more || decide (data.size % 8 = 0)) && decide (8 * off + data.size ≤ top)

theorem v4Ok_prog (p : P4) : v4Ok p = (isIn p.tos 0 255 && (isIn p.ttl 0 255 && (isIn p.proto 0 255 && (isIn p.id 0 65535 && (decide (p.src.size = 4) && (decide (p.dst.size = 4) && (decide (p.opts.size ≤ 40) && (decide (p.opts.size % 4 = 0) && (pcV p.off p.more p.data 65515 && !(p.whole && (p.more || !decide (p.off = 0))))))))))) ) := by
  unfold v4Ok v4A v4B v4C pcV
  simp only [Bool.not_and, Bool.not_not, Bool.not_or]
  ac_rfl

theorem v6Ok_prog (p : P6) : v6Ok p = (isIn p.cls 0 255 && (isIn p.next 0 255 && (isIn p.hops 0 255 && (decide (0 ≤ p.flow) && (decide (p.flow ≤ 1048575) && (decide (p.src.size = 16) && (decide (p.dst.size = 16) && (pcV p.off p.more p.data 65535 && (decide (0 ≤ p.id) && (decide (p.id ≤ 4294967295) && ((p.piece || (!p.more && (decide (p.off = 0) && decide (p.id = 0)))) && !decide (p.next = 44)))))))))) )) := by
  unfold v6Ok v6A v6B pcV isIn
  cases p.piece with
  | true => simp only [if_true, Bool.true_or, Bool.true_and]; ac_rfl
  | false =>
    simp only [Bool.false_or, Bool.false_eq_true, if_false]
    by_cases h1 : p.off = 0
    · by_cases h2 : p.id = 0
      · cases hm : p.more with
        | true => simp
        | false =>
          by_cases h3 : p.data.size ≤ 1400
          · have h4 : (p.data.size : Int) ≤ 65535 := by omega
            simp [h1, h2, h3, h4, Bool.and_assoc, Bool.and_comm, Bool.and_left_comm]
          · simp [h3]
      · simp [h2]
    · simp [h1]


end Go.Proofs.Ytkakehchiadpbal
