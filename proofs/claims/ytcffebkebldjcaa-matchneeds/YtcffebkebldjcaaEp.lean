import Derived.Test.YtcffebkebldjcaaEo
import Derived.Test.YtcffebkebldjcaaOx
import Derived.Test.YtcffebkebldjcaaEg
import Derived.Test.YtcffebkebldjcaaEi
namespace Go.Proofs.Ytcffebkebldjcaa
set_option maxRecDepth 100000
open Go Go.RowKit Go.ChangeShapes Go.WideShapes Go.Deep
set_option linter.unusedVariables false
set_option linter.unusedSimpArgs false

theorem open_oxms {H : Type} {enc : TypeId × Value → H} {W : World} {r : Reach} {b0 base : Nat} {spare : Nat → Bool} {held : Bool} {v : Value} {d : DataW H} {p : List MemPlace}
    (hv' : Value.okWide Try.prog W r b0 22 v) (h : DataW.Trod enc Try.prog W base spare held 22 v d p) : ∃ L, OxAt W v L ∧ Fit L := by
  obtain ⟨a, cap, L, rfl, h1, h2, h3, h4, h5⟩ := open_each ocl (fun o : O6 => o.2.2.1 < 18446744073709551616 ∧ o.2.2.2.1 < 18446744073709551616 ∧ o.2.2.2.2.1 < 18446744073709551616 ∧ o.2.2.2.2.2 < 18446744073709551616) 6 (by omega) (fun o => rfl) Try.underlying22 (by kernel_rfl) (fun hh => by
    obtain ⟨f, m, a, b, c, d, e, g1, g2, g3, g4⟩ := six_of hh
    exact ⟨(f, m, a, b, c, d), e, g1, g2, g3, g4⟩) hv' h
  refine ⟨L, ⟨a, cap, rfl, h1, h2, h3, fun i f m a b c d hi => ?_⟩, fun i f m a b c d hi => ?_⟩
  · obtain ⟨q, off, e, hc⟩ := h5 i _ hi
    exact ⟨q, off, e, hc 0 _ rfl, hc 1 _ rfl, hc 2 _ rfl, hc 3 _ rfl, hc 4 _ rfl, hc 5 _ rfl⟩
  · exact h4 _ (List.mem_of_getElem? hi)

end Go.Proofs.Ytcffebkebldjcaa
