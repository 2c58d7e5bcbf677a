import Derived.Test.YtlincickgleddaaProg
import Derived.Test.YtlincickgleddaaFe
import Derived.Below
import Derived.BigQuiet
import Derived.BigRegion
import Derived.ChangeAlike
import Derived.ChangeKeysEq
import Derived.ChangeSame
import Derived.DataElems
import Derived.Deep.MidRow
import Derived.Deep.QuietTactic
import Derived.Deep.RegionHeld
import Derived.Deep.RegionHeld3
import Derived.Deep.RegionLaw
import Derived.Deep.RegionLawGrows
import Derived.Deep.RegionWith
import Derived.Deep.WholeRow
import Derived.Great.BuildSlice
import Derived.Handy
import Derived.Laws.AppendOwn
import Derived.Laws.AppendOwnNone
import Derived.Laws.BitsAllLaws
import Derived.Laws.BitsLemmas
import Derived.Laws.CopyOwn
import Derived.Laws.OwnMore
import Derived.Laws.Rows
import Derived.Laws.StructEq
import Derived.Laws.Tables
import Derived.Lib.BitFns
import Derived.Lib.SmallJoins
import Derived.OpenShut
import Derived.ProofKit
import Derived.RegionTactic
import Derived.WalkKit
import Derived.WalkLawsBesides
import Derived.WalkSmall
import Derived.WalkSpells
import Derived.WideShapes
namespace Go.Proofs.Ytlincickgleddaa
open Go Go.RowKit
set_option linter.unusedVariables false
set_option linter.unusedSimpArgs false

theorem info39' : ∃ i, Try.prog.info? 24 = some i ∧ i.size = 2 := by
  obtain ⟨i0, hi0, hz0, hz1, hz2⟩ := info_parts info39
  exact ⟨i0, hi0, hz1⟩

theorem cells39 : Try.prog.cellsOf 24 = 2 := by kernel_rfl

theorem agg39 (w : World) : (isAgg 24).run Try.prog w = .ok true w := by
  simp [isAgg, run_underlying Try.underlying24 w]

theorem part39 (xs : Array Value) (o : Nat) (w : World) : (part 24 xs o).run Try.prog w = .ok (.agg (xs.extract o (o + 2))) w := by
  obtain ⟨i, hi, hs⟩ := info39'
  simp [part, agg39, sizeOf, typeInfo, hi, hs]

theorem eqin39 (d : Nat) (a b c e : Nat) (w : World) : (Op.equalIn (d + 2) 24 (.agg #[.int .u64 (a : Int), .int .u64 (b : Int)]) (.agg #[.int .u64 (c : Int), .int .u64 (e : Int)])).run Try.prog w = .ok (decide ((a, b) = (c, e))) w := by
  by_cases h1 : a = c
  · subst h1
    by_cases h2 : b = e
    · subst h2
      go_simp
    · have g : (((b : Nat) : Int) == (e : Int)) = false := by simp; omega
      go_simp
  · have g : (((a : Nat) : Int) == (c : Int)) = false := by simp; omega
    go_simp

theorem wdc_drop : ∀ (l : List (Nat × Nat)) (j : Nat), (wdc l).drop (j * 2) = wdc (l.drop j)
  | l, 0 => by simp
  | [], j + 1 => by simp [wdc]
  | p :: l, j + 1 => by
    rw [show (j + 1) * 2 = j * 2 + 1 + 1 by omega]
    simp only [wdc, List.drop_succ_cons]
    exact wdc_drop l j

theorem ext39 (l : List (Nat × Nat)) (j : Nat) (p : Nat × Nat) (h : l[j]? = some p) : (wdc l).toArray.extract (j * 2) (j * 2 + 2) = #[.int .u64 (p.1 : Int), .int .u64 (p.2 : Int)] := by
  have hj : j < l.length := (List.getElem?_eq_some_iff.1 h).1
  have e : l[j] = p := (List.getElem?_eq_some_iff.1 h).2
  rw [List.extract_toArray, List.extract_eq_take_drop, wdc_drop, List.drop_eq_getElem_cons hj, e]
  have e2 : j * 2 + 2 - j * 2 = 2 := by omega
  rw [e2]
  simp [wdc]

theorem eqItems_H (l m : List (Nat × Nat)) (hl : l.length = 24) (hm : m.length = 24) (d : Nat) (w : World) : ∀ is : List Nat, (∀ i ∈ is, i < 24) →
    (Op.eqItems (d + 2) 24 2 (wdc l).toArray (wdc m).toArray is).run Try.prog w = .ok (is.all fun i => decide (l[i]? = m[i]?)) w
  | [], _ => by simp [Op.eqItems]
  | i :: is, h => by
    have hi : i < 24 := h i (by simp)
    obtain ⟨⟨a, b⟩, hp⟩ : ∃ p, l[i]? = some p := ⟨_, List.getElem?_eq_getElem (by omega)⟩
    obtain ⟨⟨c, e⟩, hq⟩ : ∃ p, m[i]? = some p := ⟨_, List.getElem?_eq_getElem (by omega)⟩
    simp only [Op.eqItems, Sem.run_bind, part39, Result.andThen_ok, ext39 l i _ hp, ext39 m i _ hq, eqin39, hp, hq]
    have ih := eqItems_H l m hl hm d w is (fun j hj => h j (by simp [hj]))
    by_cases e1 : (a, b) = (c, e)
    · rw [decide_eq_true e1]
      have e2 : decide (some (a, b) = some (c, e)) = true := by rw [e1]; simp
      simp only [Bool.not_true, Bool.false_eq_true, if_false, List.all_cons, hp, hq, e2, Bool.true_and]
      exact ih
    · rw [decide_eq_false e1]
      have e2 : decide (some (a, b) = some (c, e)) = false := by simpa using e1
      simp only [Bool.not_false, if_true, Sem.run_pure, List.all_cons, hp, hq, e2, Bool.false_and]

theorem all_same (l m : List (Nat × Nat)) (hl : l.length = 24) (hm : m.length = 24) : ((List.range 24).all fun i => decide (l[i]? = m[i]?)) = decide (l = m) := by
  by_cases h : l = m
  · subst h; simp
  · rw [decide_eq_false h, Bool.eq_false_iff]
    intro e
    apply h
    apply List.ext_getElem?
    intro i
    by_cases hi : i < 24
    · have := List.all_eq_true.1 e i (by simpa using hi)
      simpa using this
    · rw [List.getElem?_eq_none (by omega), List.getElem?_eq_none (by omega)]

theorem run_heqIn (l m : List (Nat × Nat)) (hl : l.length = 24) (hm : m.length = 24) (w : World) :
    (Op.equalIn 10000 31 (.agg (wdc l).toArray) (.agg (wdc m).toArray)).run Try.prog w = .ok (decide (l = m)) w := by
  obtain ⟨i, hi, _⟩ := info39'
  rw [run_equalIn_array w 9999 (wdc l).toArray (wdc m).toArray Try.underlying31 hi, cells39, eqItems_H l m hl hm 9997 w (List.range 24) (by simp), all_same l m hl hm]

theorem szHl {l : List (Nat × Nat)} (h : l.length = 24) : (Try.prog.info? 31).map (·.size) = some (wdc l).length := by
  have e : (wdc l).length = 48 := by simp [wdc_length, h]
  exact Eq.trans (by kernel_rfl : (Try.prog.info? 31).map (·.size) = some 48) (by rw [e])

end Go.Proofs.Ytlincickgleddaa
