import Derived.Test.YtmpfpolanndakaaG
import Derived.Test.YtmpfpolanndakaaQ
import Derived.WalkKit
import Derived.WalkSpells
import Derived.WalkLawsBesides
import Derived.Below
import Derived.Handy
namespace Go.Proofs.Ytmpfpolanndakaa
open Go Go.RowKit
set_option linter.unusedVariables false
set_option linter.unusedSimpArgs false

/-- the t lowest bits -/
def lowb (t : Nat) : Nat := 2 ^ t - 1

/-- a number held between 0 and m -/
def cl (n : Int) (m : Nat) : Nat := (min (max n 0) (m : Int)).toNat

/-- the halves of bit i alone -/
def bh (i : Nat) : Nat := if i < 64 then 0 else 2 ^ (i - 64)

def bl (i : Nat) : Nat := if i < 64 then 2 ^ i else 0

theorem pow_lt64 (t : Nat) (h : t < 64) : 2 ^ t < 18446744073709551616 := by
  have : 2 ^ t < 2 ^ 64 := Nat.pow_lt_pow_right (by decide) h
  simpa using this

theorem lowb_lt (t : Nat) (h : t ≤ 64) : lowb t < 18446744073709551616 := by
  unfold lowb
  have h1 : 2 ^ t ≤ 2 ^ 64 := Nat.pow_le_pow_right (by decide) h
  have h2 : 0 < 2 ^ t := Nat.two_pow_pos t
  simp only [Nat.reducePow] at h1
  omega

theorem bh_lt (i : Nat) (h : i < 128) : bh i < 18446744073709551616 := by
  unfold bh; split
  · omega
  · exact pow_lt64 _ (by omega)

theorem bl_lt (i : Nat) : bl i < 18446744073709551616 := by
  unfold bl; split
  · exact pow_lt64 _ (by omega)
  · omega

theorem ones_val (t : Nat) (h : t ≤ 64) : IntKind.u64.wrap (IntKind.u64.wrap ((2 : Int) ^ t) - 1) = ((lowb t : Nat) : Int) := by
  unfold lowb
  rcases Nat.lt_or_ge t 64 with h' | h'
  · have h1 := pow_lt64 t h'
    have h2 : 0 < 2 ^ t := Nat.two_pow_pos t
    have e : ((2 : Int) ^ t) = ((2 ^ t : Nat) : Int) := by simp
    rw [e, wu64 _ h1, IntKind.wrap_u64]
    omega
  · have : t = 64 := by omega
    subst this
    decide

theorem testBit_lowb (t i : Nat) : (lowb t).testBit i = decide (i < t) := Nat.testBit_two_pow_sub_one t i

theorem or_low (t : Nat) : lowb t ||| 2 ^ t = lowb (t + 1) := by
  apply Nat.eq_of_testBit_eq
  intro i
  rw [Nat.testBit_or, testBit_lowb, testBit_lowb, Nat.testBit_two_pow, Bool.eq_iff_iff]
  simp
  omega

theorem low_hi (i : Nat) : lowb (i - 64) ||| bh i = lowb (i + 1 - 64) := by
  unfold bh
  split
  · rw [show i + 1 - 64 = 0 by omega, show i - 64 = 0 by omega]; decide
  · rw [show i + 1 - 64 = (i - 64) + 1 by omega]; exact or_low _

theorem low_lo (i : Nat) : lowb (min i 64) ||| bl i = lowb (min (i + 1) 64) := by
  unfold bl
  split
  · rw [show min (i + 1) 64 = i + 1 by omega, show min i 64 = i by omega]; exact or_low _
  · rw [show min (i + 1) 64 = 64 by omega, show min i 64 = 64 by omega]; simp

end Go.Proofs.Ytmpfpolanndakaa
