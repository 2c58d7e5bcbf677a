import Derived.Test.YtickphnfgaibiabProg
import Derived.Test.YtickphnfgaibiabR
import Derived.Test.YtickphnfgaibiabTa
import Derived.Test.YtickphnfgaibiabTb
import Derived.Below
import Derived.BigQuiet
import Derived.BigRegion
import Derived.ChangeAlike
import Derived.ChangeKeysEq
import Derived.ChangeSame
import Derived.DataElems
import Derived.Deep.MidRow
import Derived.Deep.QuietTactic
import Derived.Deep.RegionHeld
import Derived.Deep.RegionHeld3
import Derived.Deep.RegionLaw
import Derived.Deep.RegionLawGrows
import Derived.Deep.RegionWith
import Derived.Deep.WholeRow
import Derived.Great.BuildSlice
import Derived.Handy
import Derived.Laws.AppendOwn
import Derived.Laws.AppendOwnNone
import Derived.Laws.BitsAllLaws
import Derived.Laws.BitsLemmas
import Derived.Laws.CopyOwn
import Derived.Laws.OwnMore
import Derived.Laws.Rows
import Derived.Laws.StructEq
import Derived.Laws.Tables
import Derived.Lib.BitFns
import Derived.Lib.SmallJoins
import Derived.OpenShut
import Derived.ProofKit
import Derived.RegionTactic
import Derived.WalkKit
import Derived.WalkLawsBesides
import Derived.WalkSmall
import Derived.WalkSpells
import Derived.WideShapes
namespace Go.Proofs.Ytickphnfgaibiab
open Go Go.RowKit
set_option linter.unusedVariables false
set_option linter.unusedSimpArgs false

/-- a half of a meet, where there is one -/
def mz (ok : Bool) (r : Nat) : Nat := match ok with | true => r | false => 0

theorem mz_lt (ok : Bool) (r : Nat) (h : r < 18446744073709551616) : mz ok r < 18446744073709551616 := by cases ok <;> simp [mz] <;> omega

def mok (a b c d a2 b2 c2 d2 : Nat) : Bool := ((a ^^^ a2) &&& (c &&& c2) == 0 && (b ^^^ b2) &&& (d &&& d2) == 0)

theorem tmeet_ok (a b c d a2 b2 c2 d2 : Nat) (w : World) (ha : a < 18446744073709551616) (hb : b < 18446744073709551616) (hc : c < 18446744073709551616) (hd : d < 18446744073709551616) (ha2 : a2 < 18446744073709551616) (hb2 : b2 < 18446744073709551616) (hc2 : c2 < 18446744073709551616) (hd2 : d2 < 18446744073709551616) :
    Calls Try.prog 45 #[td a b c d, td a2 b2 c2 d2] w fun e w' => e = .returned (.tuple #[td (mz (mok a b c d a2 b2 c2 d2) (a &&& c ||| a2 &&& c2)) (mz (mok a b c d a2 b2 c2 d2) (b &&& d ||| b2 &&& d2)) (mz (mok a b c d a2 b2 c2 d2) (c ||| c2)) (mz (mok a b c d a2 b2 c2 d2) (d ||| d2)), .bool (mok a b c d a2 b2 c2 d2)]) ∧ Below w.heap.size w w' := by
  refine (tmeet_any a b c d a2 b2 c2 d2 w ha hb hc hd ha2 hb2 hc2 hd2).mono fun e w' ⟨h, k⟩ => ⟨?_, k⟩
  rw [h]
  by_cases e : (a ^^^ a2) &&& (c &&& c2) = 0 ∧ (b ^^^ b2) &&& (d &&& d2) = 0
  · rw [if_pos e]
    have : mok a b c d a2 b2 c2 d2 = true := by unfold mok; simpa using e
    rw [this]; rfl
  · rw [if_neg e]
    have : mok a b c d a2 b2 c2 d2 = false := by unfold mok; simpa using e
    rw [this]; rfl

theorem rtmeet_ok (a b c d a2 b2 c2 d2 : Nat) (w : World) (ha : a < 18446744073709551616) (hb : b < 18446744073709551616) (hc : c < 18446744073709551616) (hd : d < 18446744073709551616) (ha2 : a2 < 18446744073709551616) (hb2 : b2 < 18446744073709551616) (hc2 : c2 < 18446744073709551616) (hd2 : d2 < 18446744073709551616) :
    Calls Try.prog 60 #[td a b c d, td a2 b2 c2 d2] w fun e w' => e = .returned (.tuple #[td (mz (mok a b c d a2 b2 c2 d2) (a &&& c ||| a2 &&& c2)) (mz (mok a b c d a2 b2 c2 d2) (b &&& d ||| b2 &&& d2)) (mz (mok a b c d a2 b2 c2 d2) (c ||| c2)) (mz (mok a b c d a2 b2 c2 d2) (d ||| d2)), .bool (mok a b c d a2 b2 c2 d2)]) ∧ Below w.heap.size w w' := by
  refine (rtmeet_any a b c d a2 b2 c2 d2 w ha hb hc hd ha2 hb2 hc2 hd2).mono fun e w' ⟨h, k⟩ => ⟨?_, k⟩
  rw [h]
  by_cases e : (a ^^^ a2) &&& (c &&& c2) = 0 ∧ (b ^^^ b2) &&& (d &&& d2) = 0
  · rw [if_pos e]
    have : mok a b c d a2 b2 c2 d2 = true := by unfold mok; simpa using e
    rw [this]; rfl
  · rw [if_neg e]
    have : mok a b c d a2 b2 c2 d2 = false := by unfold mok; simpa using e
    rw [this]; rfl

/-- what a tern has -/
def thz (a b c d x y : Nat) : Bool := (a ^^^ x) &&& c == 0 && (b ^^^ y) &&& d == 0

theorem meet_rel (a b c d a2 b2 c2 d2 x y : Nat) : (thz a b c d x y && thz a2 b2 c2 d2 x y) = (mok a b c d a2 b2 c2 d2 && thz (mz (mok a b c d a2 b2 c2 d2) (a &&& c ||| a2 &&& c2)) (mz (mok a b c d a2 b2 c2 d2) (b &&& d ||| b2 &&& d2)) (mz (mok a b c d a2 b2 c2 d2) (c ||| c2)) (mz (mok a b c d a2 b2 c2 d2) (d ||| d2)) x y) := by
  have h1 := tb_meet a c a2 c2 x
  have h2 := tb_meet b d b2 d2 y
  cases hm : mok a b c d a2 b2 c2 d2
  · rw [Bool.false_and]
    rw [Bool.eq_false_iff]
    intro h
    simp only [thz, Bool.and_eq_true, beq_iff_eq] at h
    have k1 := (h1.1 ⟨h.1.1, h.2.1⟩).1
    have k2 := (h2.1 ⟨h.1.2, h.2.2⟩).1
    unfold mok at hm
    rw [k1, k2] at hm
    cases hm
  · rw [Bool.true_and, Bool.eq_iff_iff]
    unfold mok at hm
    simp only [Bool.and_eq_true, beq_iff_eq] at hm
    simp only [thz, mz, Bool.and_eq_true, beq_iff_eq]
    constructor
    · rintro ⟨⟨p1, p2⟩, q1, q2⟩
      exact ⟨(h1.1 ⟨p1, q1⟩).2, (h2.1 ⟨p2, q2⟩).2⟩
    · rintro ⟨r1, r2⟩
      obtain ⟨p1, q1⟩ := h1.2 ⟨hm.1, r1⟩
      obtain ⟨p2, q2⟩ := h2.2 ⟨hm.2, r2⟩
      exact ⟨⟨p1, p2⟩, q1, q2⟩

theorem thas_z (a b c d x y : Nat) (w : World) (ha : a < 18446744073709551616) (hb : b < 18446744073709551616) (hc : c < 18446744073709551616) (hd : d < 18446744073709551616) (hx : x < 18446744073709551616) (hy : y < 18446744073709551616) :
    Calls Try.prog 41 #[td a b c d, wd x y] w fun e w' => e = .returned (.bool (thz a b c d x y)) ∧ Below w.heap.size w w' := thas_any a b c d x y w ha hb hc hd hx hy

end Go.Proofs.Ytickphnfgaibiab
