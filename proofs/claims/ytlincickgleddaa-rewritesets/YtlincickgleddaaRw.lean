import Derived.Test.YtlincickgleddaaZz
namespace Go.Proofs.Ytlincickgleddaa
open Go Go.RowKit
theorem AB.row_far {w : World} {g f : Nat} {ty : TypeId} {cs : List Value} (h : AB w g ty cs) (ds : Array Value) (hne : g ≠ f) : AB (w.setRow f ds) g ty cs := by
  unfold AB at *
  rw [Go.setRow_other w f g ds hne]; exact h
theorem wdc_one (l : List (Nat × Nat)) : ∀ u ∈ wdc l, u.oneCell' = true := by
  induction l with
  | nil => intro u hu; cases hu
  | cons p r ih =>
    intro u hu
    simp only [wdc, List.mem_cons] at hu
    rcases hu with rfl | rfl | hu
    · rfl
    · rfl
    · exact ih u hu
end Go.Proofs.Ytlincickgleddaa
