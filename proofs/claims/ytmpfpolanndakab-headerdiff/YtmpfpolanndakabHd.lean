import Derived.Test.YtmpfpolanndakabProg
import Derived.Test.YtmpfpolanndakabG
import Derived.Test.YtmpfpolanndakabR
import Derived.Test.YtmpfpolanndakabS
import Derived.Test.YtmpfpolanndakabT
import Derived.Test.YtmpfpolanndakabW
import Derived.Test.YtmpfpolanndakabFa
import Derived.Test.YtmpfpolanndakabFc
import Derived.Test.YtmpfpolanndakabFe
import Derived.Test.YtmpfpolanndakabHa
import Derived.Below
import Derived.BigQuiet
import Derived.BigRegion
import Derived.ChangeAlike
import Derived.ChangeKeysEq
import Derived.ChangeSame
import Derived.DataElems
import Derived.Deep.MidRow
import Derived.Deep.QuietTactic
import Derived.Deep.RegionHeld
import Derived.Deep.RegionHeld3
import Derived.Deep.RegionLaw
import Derived.Deep.RegionLawGrows
import Derived.Deep.RegionWith
import Derived.Deep.WholeRow
import Derived.Great.BuildSlice
import Derived.Handy
import Derived.Laws.AppendOwn
import Derived.Laws.AppendOwnNone
import Derived.Laws.BitsAllLaws
import Derived.Laws.BitsLemmas
import Derived.Laws.CopyOwn
import Derived.Laws.OwnMore
import Derived.Laws.Rows
import Derived.Laws.StructEq
import Derived.Lib.SmallJoins
import Derived.OpenShut
import Derived.ProofKit
import Derived.RegionTactic
import Derived.WalkKit
import Derived.WalkLawsBesides
import Derived.WalkSmall
import Derived.WalkSpells
import Derived.WideShapes
namespace Go.Proofs.Ytmpfpolanndakab
open Go Go.RowKit
set_option linter.unusedVariables false
set_option linter.unusedSimpArgs false

/-- the bits that a field has -/
def cpH (j : Nat) : Nat := lowb (fbits (j : Int) - 64)

def cpL (j : Nat) : Nat := lowb (min (fbits (j : Int)) 64)

def cp (j : Nat) (p : Nat × Nat) : Nat × Nat := (p.1 &&& cpH j, p.2 &&& cpL j)

/-- without bits beyond, in the first k fields -/
def clipK (l : List (Nat × Nat)) (k : Nat) : List (Nat × Nat) := l.mapIdx fun j p => if j < k then cp j p else p

def clip (l : List (Nat × Nat)) : List (Nat × Nat) := l.mapIdx cp

theorem clipK_zero (l : List (Nat × Nat)) : clipK l 0 = l := by
  apply List.ext_getElem? ; intro i; simp [clipK]

theorem clipK_at (l : List (Nat × Nat)) (k : Nat) : (clipK l k)[k]? = l[k]? := by
  simp [clipK]

theorem clipK_step (l : List (Nat × Nat)) (k : Nat) (p : Nat × Nat) (h : l[k]? = some p) : (clipK l k).set k (cp k p) = clipK l (k + 1) := by
  apply List.ext_getElem?
  intro i
  rw [List.getElem?_set]
  by_cases e : k = i
  · subst e
    have hk : k < l.length := (List.getElem?_eq_some_iff.1 h).1
    have e2 : l[k] = p := by rw [List.getElem?_eq_getElem hk] at h; exact Option.some.inj h
    simp [clipK, hk, e2]
  · rw [if_neg e]
    simp only [clipK, List.getElem?_mapIdx]
    have : (i < k) = (i < k + 1) := by apply propext; omega
    simp [this]

theorem clipK_all (l : List (Nat × Nat)) (h : l.length = 24) : clipK l 24 = clip l := by
  apply List.ext_getElem?
  intro i
  simp only [clipK, clip, List.getElem?_mapIdx]
  cases hi : l[i]? with
  | none => rfl
  | some p =>
    have : i < 24 := by have := (List.getElem?_eq_some_iff.1 hi).1; omega
    simp [this]

theorem cl_bits (j : Nat) : cl ((fbits (j : Int) : Nat) : Int) 128 = fbits (j : Int) := by
  have := fbits_le (j : Int)
  unfold cl; omega

theorem lowj (j : Nat) (w : World) :
    Calls Try.prog 14 #[.int .i64 (fbits (j : Int) : Nat)] w fun e w' => e = .returned (wd (cpH j) (cpL j)) ∧ Below w.heap.size w w' := by
  have := low_any ((fbits (j : Int) : Nat) : Int) w
  rw [cl_bits] at this
  exact this

theorem cpH_lt (j : Nat) : cpH j < 18446744073709551616 := by
  have := fbits_le (j : Int)
  exact lowb_lt _ (by omega)

theorem cpL_lt (j : Nat) : cpL j < 18446744073709551616 := lowb_lt _ (Nat.min_le_right _ _)

end Go.Proofs.Ytmpfpolanndakab
