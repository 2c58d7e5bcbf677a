import Derived.Test.YtkhpbkdblhcepaaOzd
import Derived.Test.YtkhpbkdblhcepaaOhd
import Derived.Test.YtkhpbkdblhcepaaOid
namespace Go.Proofs.Ytkhpbkdblhcepaa
open Go Go.RowKit
set_option linter.unusedVariables false
set_option linter.unusedSimpArgs false

theorem encL_ok {f : Int} {m : Bool} {a b c d : Nat} (ha : a < 18446744073709551616) (hb : b < 18446744073709551616) (hc : c < 18446744073709551616) (hd : d < 18446744073709551616) (h : rgt f m a b c d = true) : (encL f m a b c d).length ≤ 1000 ∧ isB (encL f m a b c d) := by
  obtain ⟨hf, -⟩ := rgt_parts h
  obtain ⟨h1, h2⟩ := fid_range f hf
  have e := encL_cons f m a b c d [] hf
  rw [List.append_nil, List.append_nil] at e
  rw [e]
  have hs := fsize_le f
  have w1 := wtail_len a b f
  have w2 := wtail_len c d f
  have i1 := isB_wtail a b (fsize f) ha hb
  have i2 := isB_wtail c d (fsize f) hc hd
  constructor
  · simp only [List.length_cons, List.length_append, w1]
    cases m
    · simp only [mtail, List.length_nil]; omega
    · simp only [mtail, w2]; omega
  · intro z hz
    have hk : 0 ≤ kind f m ∧ kind f m ≤ 255 := by unfold kind; cases m <;> dsimp only <;> omega
    have hl : 0 ≤ foll f m ∧ foll f m ≤ 255 := by unfold foll; cases m <;> dsimp only <;> omega
    simp only [List.mem_cons, List.mem_append] at hz
    rcases hz with rfl | rfl | rfl | rfl | hz | hz
    · constructor <;> omega
    · constructor <;> omega
    · constructor <;> omega
    · constructor <;> omega
    · exact i1 z hz
    · cases m
      · cases hz
      · exact i2 z hz
end Go.Proofs.Ytkhpbkdblhcepaa

