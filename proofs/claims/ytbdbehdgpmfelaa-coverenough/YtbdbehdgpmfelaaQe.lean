import Derived.Test.YtbdbehdgpmfelaaProg
import Derived.Test.YtbdbehdgpmfelaaXf
import Derived.Below
import Derived.BigQuiet
import Derived.BigRegion
import Derived.ChangeAlike
import Derived.ChangeKeysEq
import Derived.ChangeSame
import Derived.DataElems
import Derived.Deep.MidRow
import Derived.Deep.QuietTactic
import Derived.Deep.RegionHeld
import Derived.Deep.RegionHeld3
import Derived.Deep.RegionLaw
import Derived.Deep.RegionLawGrows
import Derived.Deep.RegionWith
import Derived.Deep.WholeRow
import Derived.Great.BuildSlice
import Derived.Handy
import Derived.Laws.AppendOwn
import Derived.Laws.AppendOwnNone
import Derived.Laws.BitsAllLaws
import Derived.Laws.BitsLemmas
import Derived.Laws.CopyOwn
import Derived.Laws.OwnMore
import Derived.Laws.Rows
import Derived.Laws.StructEq
import Derived.Laws.Tables
import Derived.Lib.BitFns
import Derived.Lib.SmallJoins
import Derived.OpenShut
import Derived.ProofKit
import Derived.RegionTactic
import Derived.WalkKit
import Derived.WalkLawsBesides
import Derived.WalkSmall
import Derived.WalkSpells
import Derived.WideShapes
namespace Go.Proofs.Ytbdbehdgpmfelaa
open Go Go.RowKit
set_option linter.unusedVariables false
set_option linter.unusedSimpArgs false

theorem info26 : (Try.prog.info? 26).map (fun i => (i.zero, i.size, i.bytes)) = some (some (.agg #[.int .u64 0, .int .u64 0, .int .u64 0, .int .u64 0]), 4, 32) := by kernel_rfl

theorem info26' : ∃ i, Try.prog.info? 26 = some i ∧ i.size = 4 := by
  obtain ⟨i0, hi0, hz0, hz1, hz2⟩ := info_parts info26
  exact ⟨i0, hi0, hz1⟩

theorem cells26 : Try.prog.cellsOf 26 = 4 := by kernel_rfl

theorem agg26 (w : World) : (isAgg 26).run Try.prog w = .ok true w := by
  simp [isAgg, run_underlying Try.underlying26 w]

theorem part26 (xs : Array Value) (o : Nat) (w : World) : (part 26 xs o).run Try.prog w = .ok (.agg (xs.extract o (o + 4))) w := by
  obtain ⟨i, hi, hs⟩ := info26'
  simp [part, agg26, sizeOf, typeInfo, hi, hs]

theorem eqin26 (d : Nat) (a b c e a' b' c' e' : Nat) (w : World) : (Op.equalIn (d + 3) 26 (.agg #[.int .u64 (a : Int), .int .u64 (b : Int), .int .u64 (c : Int), .int .u64 (e : Int)]) (.agg #[.int .u64 (a' : Int), .int .u64 (b' : Int), .int .u64 (c' : Int), .int .u64 (e' : Int)])).run Try.prog w = .ok (decide ((a, b, c, e) = (a', b', c', e'))) w := by
  by_cases h1 : a = a'
  · subst h1
    by_cases h2 : b = b'
    · subst h2
      by_cases h3 : c = c'
      · subst h3
        by_cases h4 : e = e'
        · subst h4
          go_simp
        · have g : (((e : Nat) : Int) == (e' : Int)) = false := by simp; omega
          go_simp
      · have g : (((c : Nat) : Int) == (c' : Int)) = false := by simp; omega
        go_simp
    · have g : (((b : Nat) : Int) == (b' : Int)) = false := by simp; omega
      go_simp
  · have g : (((a : Nat) : Int) == (a' : Int)) = false := by simp; omega
    go_simp

theorem eqItems_C (l m : List Q4) (hl : l.length = 24) (hm : m.length = 24) (d : Nat) (w : World) : ∀ is : List Nat, (∀ i ∈ is, i < 24) →
    (Op.eqItems (d + 3) 26 4 (tdc l).toArray (tdc m).toArray is).run Try.prog w = .ok (is.all fun i => decide (l[i]? = m[i]?)) w
  | [], _ => by simp [Op.eqItems]
  | i :: is, h => by
    have hi : i < 24 := h i (by simp)
    obtain ⟨⟨a, b, c, e⟩, hp⟩ : ∃ p, l[i]? = some p := ⟨_, List.getElem?_eq_getElem (by omega)⟩
    obtain ⟨⟨a', b', c', e'⟩, hq⟩ : ∃ p, m[i]? = some p := ⟨_, List.getElem?_eq_getElem (by omega)⟩
    simp only [Op.eqItems, Sem.run_bind, part26, Result.andThen_ok, ext4 l i _ hp, ext4 m i _ hq, eqin26, hp, hq]
    have ih := eqItems_C l m hl hm d w is (fun j hj => h j (by simp [hj]))
    by_cases e1 : (a, b, c, e) = (a', b', c', e')
    · rw [decide_eq_true e1]
      have e2 : decide (some (a, b, c, e) = some (a', b', c', e')) = true := by rw [e1]; simp
      simp only [Bool.not_true, Bool.false_eq_true, if_false, List.all_cons, hp, hq, e2, Bool.true_and]
      exact ih
    · rw [decide_eq_false e1]
      have e2 : decide (some (a, b, c, e) = some (a', b', c', e')) = false := by simpa using e1
      simp only [Bool.not_false, if_true, Sem.run_pure, List.all_cons, hp, hq, e2, Bool.false_and]

theorem all_sameC (l m : List Q4) (hl : l.length = 24) (hm : m.length = 24) : ((List.range 24).all fun i => decide (l[i]? = m[i]?)) = decide (l = m) := by
  by_cases h : l = m
  · subst h; simp
  · rw [decide_eq_false h, Bool.eq_false_iff]
    intro e
    apply h
    apply List.ext_getElem?
    intro i
    by_cases hi : i < 24
    · have := List.all_eq_true.1 e i (by simpa using hi)
      simpa using this
    · rw [List.getElem?_eq_none (by omega), List.getElem?_eq_none (by omega)]

theorem run_ceqIn (l m : List Q4) (hl : l.length = 24) (hm : m.length = 24) (w : World) :
    (Op.equalIn 10000 28 (.agg (tdc l).toArray) (.agg (tdc m).toArray)).run Try.prog w = .ok (decide (l = m)) w := by
  obtain ⟨i, hi, _⟩ := info26'
  rw [run_equalIn_array w 9999 (tdc l).toArray (tdc m).toArray Try.underlying28 hi, cells26, eqItems_C l m hl hm 9996 w (List.range 24) (by simp), all_sameC l m hl hm]

end Go.Proofs.Ytbdbehdgpmfelaa
