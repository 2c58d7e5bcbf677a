import Derived.Test.YtmpfpolanndakabG
import Derived.Test.YtmpfpolanndakabQ
import Derived.WalkKit
import Derived.WalkSpells
import Derived.WalkLawsBesides
import Derived.Below
import Derived.Handy
namespace Go.Proofs.Ytmpfpolanndakab
open Go Go.RowKit
set_option linter.unusedVariables false
set_option linter.unusedSimpArgs false

/-- the t lowest bits -/
def lowb (t : Nat) : Nat := 2 ^ t - 1

/-- a number held between 0 and m -/
def cl (n : Int) (m : Nat) : Nat := (min (max n 0) (m : Int)).toNat

theorem pow_lt64 (t : Nat) (h : t < 64) : 2 ^ t < 18446744073709551616 := by
  have : 2 ^ t < 2 ^ 64 := Nat.pow_lt_pow_right (by decide) h
  simpa using this

theorem lowb_lt (t : Nat) (h : t ≤ 64) : lowb t < 18446744073709551616 := by
  unfold lowb
  have h1 : 2 ^ t ≤ 2 ^ 64 := Nat.pow_le_pow_right (by decide) h
  have h2 : 0 < 2 ^ t := Nat.two_pow_pos t
  simp only [Nat.reducePow] at h1
  omega

theorem ones_val (t : Nat) (h : t ≤ 64) : IntKind.u64.wrap (IntKind.u64.wrap ((2 : Int) ^ t) - 1) = ((lowb t : Nat) : Int) := by
  unfold lowb
  rcases Nat.lt_or_ge t 64 with h' | h'
  · have h1 := pow_lt64 t h'
    have h2 : 0 < 2 ^ t := Nat.two_pow_pos t
    have e : ((2 : Int) ^ t) = ((2 ^ t : Nat) : Int) := by simp
    rw [e, wu64 _ h1, IntKind.wrap_u64]
    omega
  · have : t = 64 := by omega
    subst this
    decide

end Go.Proofs.Ytmpfpolanndakab
