import Derived.Test.YtfeioclnhnipmaaProg
import Derived.Test.YtfeioclnhnipmaaK
import Derived.Test.YtfeioclnhnipmaaD
import Derived.Test.YtfeioclnhnipmaaF
import Derived.Test.YtfeioclnhnipmaaH
import Derived.Test.YtfeioclnhnipmaaL
import Derived.Below
import Derived.BigQuiet
import Derived.BigRegion
import Derived.Deep.QuietTactic
import Derived.Deep.RegionHeld3
import Derived.Deep.RegionLaw
import Derived.Deep.RegionLawGrows
import Derived.Handy
import Derived.Laws.AppendOwn
import Derived.Laws.AppendOwnNone
import Derived.Laws.BitsAllLaws
import Derived.Laws.BitsLemmas
import Derived.Laws.CopyOwn
import Derived.Laws.OwnMore
import Derived.Laws.Rows
import Derived.Laws.StructEq
import Derived.OpenShut
import Derived.ProofKit
import Derived.RegionTactic
import Derived.WalkKit
import Derived.WalkLawsBesides
import Derived.WalkSmall
import Derived.WalkSpells
namespace Go.Proofs.Ytfeioclnhnipmaa
open Go Go.RowKit
set_option linter.unusedVariables false
set_option linter.unusedSimpArgs false

theorem spl_isB (n s : Int) (hr : rightB n s = true) : isB (spl n s) := by
  simp only [rightB, Bool.and_eq_true, decide_eq_true_eq] at hr
  obtain ⟨hs, h0, h1⟩ := hr
  rcases szB_true hs with rfl | rfl | rfl
  · intro z hz; simp [spl] at hz; omega
  · intro z hz; simp [spl] at hz; omega
  · have h1 : n < 4294967296 := by simpa [lim] using h1
    intro z hz; simp [spl] at hz; omega

theorem Bytes.isB_ {w : World} {v : Value} {l : List Int} (h : Bytes w v l) : isB l := by
  obtain ⟨a, cap, _, _, _, h, _⟩ := h; exact h

theorem Bytes.short {w : World} {v : Value} {l : List Int} (h : Bytes w v l) : ∃ a cap, v = .slice a l.length cap := by
  obtain ⟨a, cap, h, _⟩ := h; exact ⟨a, cap, h⟩

/-- what is put, whether there is something or not -/
def putL (l : List Int) (n s : Int) : List Int := if rightB n s then l ++ spl n s else l

theorem put_all (v : Value) (l : List Int) (n s : Int) (w : World) (hB : Bytes w v l) (hl : l.length ≤ 100000000000000) :
    Calls Try.prog 19 #[v, .int .i64 n, .int .i64 s] w fun e w' => ∃ r, e = .returned r ∧ Bytes w' r (putL l n s) ∧ Below w.heap.size w w' := by
  cases hr : rightB n s
  · refine (put_no v l n s w hB hl hr).mono fun e w' ⟨r, he, ho, hb⟩ => ⟨r, he, ?_, hb⟩
    simp only [putL, hr]
    exact Bytes.ofOwn ho hB.isB_
  · refine (put_any v l n s w hB hl hr).mono fun e w' ⟨r, he, ho, hb⟩ => ⟨r, he, ?_, hb⟩
    simp only [putL, hr]
    exact Bytes.ofOwn ho (hB.isB_.app (spl_isB n s hr))

theorem rput_all (v : Value) (l : List Int) (n s : Int) (w : World) (hB : Bytes w v l) (hl : l.length ≤ 100000000000000) :
    Calls Try.prog 23 #[v, .int .i64 n, .int .i64 s] w fun e w' => ∃ r, e = .returned r ∧ Bytes w' r (putL l n s) ∧ Below w.heap.size w w' := by
  cases hr : rightB n s
  · refine (rput_no v l n s w hB hl hr).mono fun e w' ⟨r, he, ho, hb⟩ => ⟨r, he, ?_, hb⟩
    simp only [putL, hr]
    exact Bytes.ofOwn ho hB.isB_
  · refine (rput_any v l n s w hB hl hr).mono fun e w' ⟨r, he, ho, hb⟩ => ⟨r, he, ?_, hb⟩
    simp only [putL, hr]
    exact Bytes.ofOwn ho (hB.isB_.app (spl_isB n s hr))

/-- a cut of a slice of bytes from its head -/
theorem Bytes.cut {w : World} {g n cap : Nat} {l m : List Int} (h : Bytes w (.slice (some ⟨g, 0, none⟩) n cap) (l ++ m)) : Bytes w (.slice (some ⟨g, 0, none⟩) l.length cap) l := by
  obtain ⟨a, c, e, h1, h2, h3, h4, h5⟩ := h
  cases e
  refine ⟨_, _, rfl, by simp at h1; omega, h2, fun z hz => h3 z (List.mem_append_left _ hz), (fun e => by cases e), fun ad e j z hz => ?_⟩
  cases e
  exact h5 _ rfl j z (by rw [List.getElem?_append_left (List.getElem?_eq_some_iff.1 hz).1]; exact hz)

theorem own_form {w : World} {base n : Nat} {e : TypeId} {v : Value} {xs : List Value} (h : w.ownsRow base e 1 v n xs) (hn : 0 < n) : ∃ g cap, v = .slice (some ⟨g, 0, none⟩) n cap ∧ n ≤ cap ∧ cap ≤ 2 ^ 63 - 1 := by
  rcases h.2 with ⟨_, h0⟩ | ⟨g, cap, cur, rfl, hb, hg, h1, h2, _⟩
  · omega
  · exact ⟨g, cap, rfl, h1, by unfold maxLen at h2; exact h2⟩

theorem tail_isB : isB [9, 8, 7, 6] := by intro z hz; simp at hz; omega

end Go.Proofs.Ytfeioclnhnipmaa
