import Derived.Test.YtickphnfgaibiabP
import Derived.Test.YtickphnfgaibiabQ
import Derived.Test.YtickphnfgaibiabR
import Derived.WalkKit
import Derived.WalkSpells
import Derived.WalkLawsBesides
import Derived.Below
import Derived.Handy
namespace Go.Proofs.Ytickphnfgaibiab
open Go Go.RowKit
set_option linter.unusedVariables false
set_option linter.unusedSimpArgs false

/-- the t lowest bits -/
def lowb (t : Nat) : Nat := 2 ^ t - 1

/-- a number held between 0 and m -/
def cl (n : Int) (m : Nat) : Nat := (min (max n 0) (m : Int)).toNat

/-- the halves of bit i alone -/
def bh (i : Nat) : Nat := if i < 64 then 0 else 2 ^ (i - 64)

def bl (i : Nat) : Nat := if i < 64 then 2 ^ i else 0

theorem pow_lt64 (t : Nat) (h : t < 64) : 2 ^ t < 18446744073709551616 := by
  have : 2 ^ t < 2 ^ 64 := Nat.pow_lt_pow_right (by decide) h
  simpa using this

theorem lowb_lt (t : Nat) (h : t ≤ 64) : lowb t < 18446744073709551616 := by
  unfold lowb
  have h1 : 2 ^ t ≤ 2 ^ 64 := Nat.pow_le_pow_right (by decide) h
  have h2 : 0 < 2 ^ t := Nat.two_pow_pos t
  simp only [Nat.reducePow] at h1
  omega

theorem bh_lt (i : Nat) (h : i < 128) : bh i < 18446744073709551616 := by
  unfold bh; split
  · omega
  · exact pow_lt64 _ (by omega)

theorem bl_lt (i : Nat) : bl i < 18446744073709551616 := by
  unfold bl; split
  · exact pow_lt64 _ (by omega)
  · omega

theorem ones_val (t : Nat) (h : t ≤ 64) : IntKind.u64.wrap (IntKind.u64.wrap ((2 : Int) ^ t) - 1) = ((lowb t : Nat) : Int) := by
  unfold lowb
  rcases Nat.lt_or_ge t 64 with h' | h'
  · have h1 := pow_lt64 t h'
    have h2 : 0 < 2 ^ t := Nat.two_pow_pos t
    have e : ((2 : Int) ^ t) = ((2 ^ t : Nat) : Int) := by simp
    rw [e, wu64 _ h1, IntKind.wrap_u64]
    omega
  · have : t = 64 := by omega
    subst this
    decide

theorem testBit_lowb (t i : Nat) : (lowb t).testBit i = decide (i < t) := Nat.testBit_two_pow_sub_one t i

theorem testBit_all (i : Nat) : (18446744073709551615 : Nat).testBit i = decide (i < 64) := Nat.testBit_two_pow_sub_one 64 i

theorem sub_is_xor (c : Nat) (h : c < 18446744073709551616) : 18446744073709551615 - c = 18446744073709551615 ^^^ c := by
  have h1 : c < 2 ^ 64 := h
  have := BitVec.toNat_not (x := BitVec.ofNat 64 c)
  have e : (~~~(BitVec.ofNat 64 c)) = (BitVec.allOnes 64) ^^^ (BitVec.ofNat 64 c) := BitVec.not_def
  rw [e, BitVec.toNat_xor, BitVec.toNat_allOnes, BitVec.toNat_ofNat, Nat.mod_eq_of_lt h1] at this
  simpa using this.symm

theorem testBit_andn (a c i : Nat) (hc : c < 18446744073709551616) : (andn a c).testBit i = (a.testBit i && (decide (i < 64) ^^ c.testBit i)) := by
  unfold andn
  rw [sub_is_xor c hc, Nat.testBit_and, Nat.testBit_xor, testBit_all]

theorem andn_low (t : Nat) (h : t < 64) : andn (lowb (t + 1)) (lowb t) = 2 ^ t := by
  apply Nat.eq_of_testBit_eq
  intro i
  rw [testBit_andn _ _ _ (lowb_lt t (by omega)), testBit_lowb, testBit_lowb, Nat.testBit_two_pow]
  rw [Bool.eq_iff_iff]
  simp
  omega

theorem andn_self (a : Nat) (h : a < 18446744073709551616) : andn a a = 0 := by
  apply Nat.eq_of_testBit_eq
  intro i
  rw [testBit_andn _ _ _ h, Nat.zero_testBit]
  cases e : a.testBit i
  · rfl
  · have : i < 64 := by
      rcases Nat.lt_or_ge i 64 with h' | h'
      · exact h'
      · have := Nat.testBit_lt_two_pow (x := a) (i := i) (Nat.lt_of_lt_of_le h (by have := Nat.pow_le_pow_right (n := 2) (by decide) h'; simpa using this))
        rw [this] at e; cases e
    simp [this]

theorem bit_hi (i : Nat) (h : i < 128) : andn (lowb (i + 1 - 64)) (lowb (i - 64)) = bh i := by
  unfold bh
  split
  · rw [show i + 1 - 64 = 0 by omega, show i - 64 = 0 by omega]; decide
  · rw [show i + 1 - 64 = (i - 64) + 1 by omega]; exact andn_low _ (by omega)

theorem bit_lo (i : Nat) (h : i < 128) : andn (lowb (min (i + 1) 64)) (lowb (min i 64)) = bl i := by
  unfold bl
  split
  · rw [show min (i + 1) 64 = i + 1 by omega, show min i 64 = i by omega]; exact andn_low _ (by omega)
  · rw [show min (i + 1) 64 = 64 by omega, show min i 64 = 64 by omega]; exact andn_self _ (lowb_lt 64 (by omega))

/-- bit i is there -/
def hasb (a b i : Nat) : Bool := if i < 64 then b.testBit i else a.testBit (i - 64)

theorem and_pow_zero (x t : Nat) : (x &&& 2 ^ t == 0) = !x.testBit t := by
  rw [nat_bit]
  rw [Nat.testBit_eq_decide_div_mod_eq]
  have h2 : 0 < 2 ^ t := Nat.two_pow_pos t
  rcases Nat.mod_two_eq_zero_or_one (x / 2 ^ t) with h | h
  · rw [h]; simp
  · rw [h]; simp

theorem has_val (a b i : Nat) : (!((a &&& bh i) == 0 && (b &&& bl i) == 0)) = hasb a b i := by
  unfold bh bl hasb
  split
  · rw [and_pow_zero]; simp
  · rw [and_pow_zero]; simp

/-- how many of the k lowest bits there are -/
def cnt (a b : Nat) : Nat → Nat
  | 0 => 0
  | k + 1 => cnt a b k + (if hasb a b k then 1 else 0)

theorem cnt_le (a b : Nat) : ∀ k, cnt a b k ≤ k
  | 0 => Nat.le_refl _
  | k + 1 => by have := cnt_le a b k; simp only [cnt]; split <;> omega

theorem pcr_snoc : ∀ k x, pcr (k + 1) x = pcr k x + x / 2 ^ k % 2
  | 0, x => by simp [pcr]
  | k + 1, x => by
    have := pcr_snoc k (x / 2)
    show x % 2 + pcr (k + 1) (x / 2) = x % 2 + pcr k (x / 2) + x / 2 ^ (k + 1) % 2
    rw [this, Nat.div_div_eq_div_mul, Nat.pow_succ, Nat.mul_comm (2 ^ k) 2]
    omega

theorem tb (x k : Nat) : (if x.testBit k then 1 else 0) = x / 2 ^ k % 2 := by
  rw [Nat.testBit_eq_decide_div_mod_eq]
  rcases Nat.mod_two_eq_zero_or_one (x / 2 ^ k) with h | h <;> rw [h] <;> simp

theorem hasb_lo (a b k : Nat) (h : k < 64) : hasb a b k = b.testBit k := by unfold hasb; rw [if_pos h]

theorem hasb_hi (a b k : Nat) (h : ¬ k < 64) : hasb a b k = a.testBit (k - 64) := by unfold hasb; rw [if_neg h]

theorem cnt_succ (a b k : Nat) : cnt a b (k + 1) = cnt a b k + (if hasb a b k then 1 else 0) := rfl

theorem cnt_lo (a b : Nat) : ∀ k, k ≤ 64 → cnt a b k = pcr k b
  | 0, _ => rfl
  | k + 1, h => by
    rw [pcr_snoc, ← tb, cnt_succ, hasb_lo a b k (by omega), cnt_lo a b k (by omega)]

theorem cnt_hi (a b m : Nat) (hm : m = 64) : ∀ k, cnt a b (m + k) = pcr m b + pcr k a
  | 0 => by rw [Nat.add_zero, cnt_lo a b m (by omega)]; rfl
  | k + 1 => by
    rw [pcr_snoc, ← tb, ← Nat.add_assoc, cnt_succ, cnt_hi a b m hm k, hasb_hi a b (m + k) (by omega), show m + k - 64 = k by omega]
    omega

theorem cnt_all (a b : Nat) (ha : a < 18446744073709551616) (hb : b < 18446744073709551616) : cnt a b 128 = pc a + pc b := by
  have := cnt_hi a b 64 rfl 64
  rw [pc_64 a ha, pc_64 b hb] at this
  rw [Nat.add_comm (pc a)]
  exact this

theorem pcr_or_and : ∀ n a b, pcr n a + pcr n b = pcr n (a ||| b) + pcr n (a &&& b)
  | 0, _, _ => rfl
  | n + 1, a, b => by
    have ih := pcr_or_and n (a / 2) (b / 2)
    simp only [pcr]
    rw [Nat.or_div_two, Nat.and_div_two]
    have h1 : a % 2 + b % 2 = (a ||| b) % 2 + (a &&& b) % 2 := by
      have e1 := Nat.testBit_or a b 0
      have e2 := Nat.testBit_and a b 0
      simp only [Nat.testBit_zero] at e1 e2
      rcases Nat.mod_two_eq_zero_or_one a with h | h <;> rcases Nat.mod_two_eq_zero_or_one b with k | k <;> rcases Nat.mod_two_eq_zero_or_one (a ||| b) with o | o <;> rcases Nat.mod_two_eq_zero_or_one (a &&& b) with n1 | n1 <;> rw [h, k, o] at e1 <;> rw [h, k, n1] at e2 <;> first | omega | (exfalso; revert e1; decide) | (exfalso; revert e2; decide)
    omega

theorem pc_or_and (a b : Nat) (ha : a < 18446744073709551616) (hb : b < 18446744073709551616) : pc a + pc b = pc (a ||| b) + pc (a &&& b) := by
  rw [← pc_64 a ha, ← pc_64 b hb, ← pc_64 _ (or_lt a b ha hb), ← pc_64 _ (and_lt a b ha)]
  exact pcr_or_and 64 a b

theorem less_and (a b : Nat) (ha : a < 18446744073709551616) (hb : b < 18446744073709551616) : andn a b ||| (a &&& b) = a := by
  apply Nat.eq_of_testBit_eq
  intro i
  rw [Nat.testBit_or, testBit_andn _ _ _ hb, Nat.testBit_and]
  cases e : a.testBit i
  · simp
  · have : i < 64 := by
      rcases Nat.lt_or_ge i 64 with h' | h'
      · exact h'
      · have := Nat.testBit_lt_two_pow (x := a) (i := i) (Nat.lt_of_lt_of_le ha (by have := Nat.pow_le_pow_right (n := 2) (by decide) h'; simpa using this))
        rw [this] at e; cases e
    cases b.testBit i <;> simp [this]

end Go.Proofs.Ytickphnfgaibiab
