import Derived.Test.YtabeahglfhhfmabP
import Derived.Test.YtabeahglfhhfmabR
import Derived.WalkKit
import Derived.WalkSpells
import Derived.WalkLawsBesides
import Derived.Below
import Derived.Handy
namespace Go.Proofs.Ytabeahglfhhfmab
open Go Go.RowKit
set_option linter.unusedVariables false
set_option linter.unusedSimpArgs false

/-- a number held between 0 and m -/
def cl (n : Int) (m : Nat) : Nat := (min (max n 0) (m : Int)).toNat

theorem testBit_all (i : Nat) : (18446744073709551615 : Nat).testBit i = decide (i < 64) := Nat.testBit_two_pow_sub_one 64 i

theorem sub_is_xor (c : Nat) (h : c < 18446744073709551616) : 18446744073709551615 - c = 18446744073709551615 ^^^ c := by
  have h1 : c < 2 ^ 64 := h
  have := BitVec.toNat_not (x := BitVec.ofNat 64 c)
  have e : (~~~(BitVec.ofNat 64 c)) = (BitVec.allOnes 64) ^^^ (BitVec.ofNat 64 c) := BitVec.not_def
  rw [e, BitVec.toNat_xor, BitVec.toNat_allOnes, BitVec.toNat_ofNat, Nat.mod_eq_of_lt h1] at this
  simpa using this.symm

theorem testBit_andn (a c i : Nat) (hc : c < 18446744073709551616) : (andn a c).testBit i = (a.testBit i && (decide (i < 64) ^^ c.testBit i)) := by
  unfold andn
  rw [sub_is_xor c hc, Nat.testBit_and, Nat.testBit_xor, testBit_all]

theorem pcr_or_and : ∀ n a b, pcr n a + pcr n b = pcr n (a ||| b) + pcr n (a &&& b)
  | 0, _, _ => rfl
  | n + 1, a, b => by
    have ih := pcr_or_and n (a / 2) (b / 2)
    simp only [pcr]
    rw [Nat.or_div_two, Nat.and_div_two]
    have h1 : a % 2 + b % 2 = (a ||| b) % 2 + (a &&& b) % 2 := by
      have e1 := Nat.testBit_or a b 0
      have e2 := Nat.testBit_and a b 0
      simp only [Nat.testBit_zero] at e1 e2
      rcases Nat.mod_two_eq_zero_or_one a with h | h <;> rcases Nat.mod_two_eq_zero_or_one b with k | k <;> rcases Nat.mod_two_eq_zero_or_one (a ||| b) with o | o <;> rcases Nat.mod_two_eq_zero_or_one (a &&& b) with n1 | n1 <;> rw [h, k, o] at e1 <;> rw [h, k, n1] at e2 <;> first | omega | (exfalso; revert e1; decide) | (exfalso; revert e2; decide)
    omega

theorem pc_or_and (a b : Nat) (ha : a < 18446744073709551616) (hb : b < 18446744073709551616) : pc a + pc b = pc (a ||| b) + pc (a &&& b) := by
  rw [← pc_64 a ha, ← pc_64 b hb, ← pc_64 _ (or_lt a b ha hb), ← pc_64 _ (and_lt a b ha)]
  exact pcr_or_and 64 a b

theorem less_and (a b : Nat) (ha : a < 18446744073709551616) (hb : b < 18446744073709551616) : andn a b ||| (a &&& b) = a := by
  apply Nat.eq_of_testBit_eq
  intro i
  rw [Nat.testBit_or, testBit_andn _ _ _ hb, Nat.testBit_and]
  cases e : a.testBit i
  · simp
  · have : i < 64 := by
      rcases Nat.lt_or_ge i 64 with h' | h'
      · exact h'
      · have := Nat.testBit_lt_two_pow (x := a) (i := i) (Nat.lt_of_lt_of_le ha (by have := Nat.pow_le_pow_right (n := 2) (by decide) h'; simpa using this))
        rw [this] at e; cases e
    cases b.testBit i <;> simp [this]

end Go.Proofs.Ytabeahglfhhfmab
