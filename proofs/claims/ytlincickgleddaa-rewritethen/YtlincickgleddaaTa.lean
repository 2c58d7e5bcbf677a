import Derived.Test.YtlincickgleddaaR
import Derived.Below
import Derived.BigQuiet
import Derived.BigRegion
import Derived.ChangeAlike
import Derived.ChangeKeysEq
import Derived.ChangeSame
import Derived.DataElems
import Derived.Deep.MidRow
import Derived.Deep.QuietTactic
import Derived.Deep.RegionHeld
import Derived.Deep.RegionHeld3
import Derived.Deep.RegionLaw
import Derived.Deep.RegionLawGrows
import Derived.Deep.RegionWith
import Derived.Deep.WholeRow
import Derived.Great.BuildSlice
import Derived.Handy
import Derived.Laws.AppendOwn
import Derived.Laws.AppendOwnNone
import Derived.Laws.BitsAllLaws
import Derived.Laws.BitsLemmas
import Derived.Laws.CopyOwn
import Derived.Laws.OwnMore
import Derived.Laws.Rows
import Derived.Laws.StructEq
import Derived.Laws.Tables
import Derived.Lib.BitFns
import Derived.Lib.SmallJoins
import Derived.OpenShut
import Derived.ProofKit
import Derived.RegionTactic
import Derived.WalkKit
import Derived.WalkLawsBesides
import Derived.WalkSmall
import Derived.WalkSpells
import Derived.WideShapes
namespace Go.Proofs.Ytlincickgleddaa
open Go Go.RowKit
set_option linter.unusedVariables false
set_option linter.unusedSimpArgs false

/-- bits that count, bit by bit -/
theorem tb_zero (x : Nat) : x = 0 ↔ ∀ i, x.testBit i = false := by
  constructor
  · rintro rfl i; simp
  · intro h; exact Nat.eq_of_testBit_eq (fun i => by rw [h i]; simp)

theorem tb_has (v m x : Nat) : ((v ^^^ x) &&& m = 0) ↔ ∀ i, m.testBit i = true → v.testBit i = x.testBit i := by
  rw [tb_zero]
  refine forall_congr' fun i => ?_
  rw [Nat.testBit_and, Nat.testBit_xor]
  cases m.testBit i <;> cases v.testBit i <;> cases x.testBit i <;> simp

theorem tb_meet (av am bv bm x : Nat) : (((av ^^^ x) &&& am = 0) ∧ ((bv ^^^ x) &&& bm = 0)) ↔ (((av ^^^ bv) &&& (am &&& bm) = 0) ∧ (((av &&& am ||| bv &&& bm) ^^^ x) &&& (am ||| bm) = 0)) := by
  simp only [tb_zero, ← forall_and]
  refine forall_congr' fun i => ?_
  simp only [Nat.testBit_and, Nat.testBit_xor, Nat.testBit_or]
  cases am.testBit i <;> cases av.testBit i <;> cases bm.testBit i <;> cases bv.testBit i <;> cases x.testBit i <;> simp

theorem tb_andn (a c : Nat) (hc : c < 18446744073709551616) (i : Nat) : (andn a c).testBit i = (a.testBit i && (decide (i < 64) && !c.testBit i)) := by
  unfold andn
  rw [Nat.testBit_and]
  have e : 18446744073709551615 - c = 2 ^ 64 - (c + 1) := by
    have : (2 : Nat) ^ 64 = 18446744073709551616 := by decide
    omega
  rw [e, Nat.testBit_two_pow_sub_succ (by have : (2 : Nat) ^ 64 = 18446744073709551616 := by decide
                                          omega)]

theorem tb_high (a i : Nat) (ha : a < 18446744073709551616) (hi : 64 ≤ i) : a.testBit i = false := by
  apply Nat.testBit_lt_two_pow
  have : (2 : Nat) ^ 64 ≤ 2 ^ i := Nat.pow_le_pow_right (by decide) hi
  have e : (2 : Nat) ^ 64 = 18446744073709551616 := by decide
  omega

end Go.Proofs.Ytlincickgleddaa
