import Derived.Test.YtikooaaigdmjmabK
import Derived.Test.YtikooaaigdmjmabG
import Derived.WalkKit
import Derived.WalkSpells
import Derived.WalkLawsBesides
import Derived.Below
import Derived.Handy
namespace Go.Proofs.Ytikooaaigdmjmab
open Go Go.RowKit
set_option linter.unusedVariables false
set_option linter.unusedSimpArgs false

theorem Bytes.isB_ {w : World} {v : Value} {l : List Int} (h : Bytes w v l) : isB l := by
  obtain ⟨a, cap, _, _, _, h, _⟩ := h; exact h

theorem Bytes.short {w : World} {v : Value} {l : List Int} (h : Bytes w v l) : ∃ a cap, v = .slice a l.length cap := by
  obtain ⟨a, cap, h, _⟩ := h; exact ⟨a, cap, h⟩

/-- a cut of a slice of bytes from its head -/
theorem Bytes.cut {w : World} {g n cap : Nat} {l m : List Int} (h : Bytes w (.slice (some ⟨g, 0, none⟩) n cap) (l ++ m)) : Bytes w (.slice (some ⟨g, 0, none⟩) l.length cap) l := by
  obtain ⟨a, c, e, h1, h2, h3, h4, h5⟩ := h
  cases e
  refine ⟨_, _, rfl, by simp at h1; omega, h2, fun z hz => h3 z (List.mem_append_left _ hz), (fun e => by cases e), fun ad e j z hz => ?_⟩
  cases e
  exact h5 _ rfl j z (by rw [List.getElem?_append_left (List.getElem?_eq_some_iff.1 hz).1]; exact hz)

theorem own_form {w : World} {base n : Nat} {e : TypeId} {v : Value} {xs : List Value} (h : w.ownsRow base e 1 v n xs) (hn : 0 < n) : ∃ g cap, v = .slice (some ⟨g, 0, none⟩) n cap ∧ n ≤ cap ∧ cap ≤ 2 ^ 63 - 1 := by
  rcases h.2 with ⟨_, h0⟩ | ⟨g, cap, cur, rfl, hb, hg, h1, h2, _⟩
  · omega
  · exact ⟨g, cap, rfl, h1, by unfold maxLen at h2; exact h2⟩

theorem tail_isB : isB [9, 8, 7, 6] := by intro z hz; simp at hz; omega

end Go.Proofs.Ytikooaaigdmjmab
