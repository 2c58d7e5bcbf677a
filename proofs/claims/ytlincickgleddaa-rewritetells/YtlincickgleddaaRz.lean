import Derived.Test.YtlincickgleddaaRm
namespace Go.Proofs.Ytlincickgleddaa
open Go Go.RowKit
set_option linter.unusedVariables false
set_option linter.unusedSimpArgs false

/-- what Before answers -/
def beforeC (r c : List Q4) : List Q4 := match okC r c with | true => woutC c r | false => z24q
theorem beforeC_isC {r c : List Q4} (hr : isC r) (hc : isC c) : isC (beforeC r c) := by
  unfold beforeC
  split
  · exact woutC_isC hc hr
  · exact ⟨z24q_len, fun p hp => by
      have := List.eq_of_mem_replicate hp
      subst this
      decide⟩
theorem beforeC_rel {r c : List Q4} {h : List (Nat × Nat)} (hr : isC r) (hc : isC c) (hh : isH h) : hasC c (applyC r h) = (okC r c && hasC (beforeC r c) h) := before_rel hr hc hh

end Go.Proofs.Ytlincickgleddaa
