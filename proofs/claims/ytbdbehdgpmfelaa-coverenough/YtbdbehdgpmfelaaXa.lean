import Derived.WalkKit
import Derived.Laws.BitsLemmas
import Derived.WalkSpells
import Derived.WalkLawsBesides
import Derived.Below
import Derived.Handy
import Derived.Laws.AppendOwn
import Derived.Laws.AppendOwnNone
import Derived.Laws.OwnMore
import Derived.Laws.BitsAllLaws
import Derived.Deep.RegionLawGrows
namespace Go.Proofs.Ytbdbehdgpmfelaa
section
open Go Go.RowKit
set_option linter.unusedVariables false
set_option linter.unusedSimpArgs false
open Go.RowKit

theorem ret_int {k : IntKind} {a b : Int} (h : a = b) : Ending.returned (.int k a) = .returned (.int k b) := by rw [h]
end

section
open Go Go.RowKit
set_option linter.unusedVariables false
set_option linter.unusedSimpArgs false

theorem hide_ {p : Prop} (h : p) : Hid p := h
end

section
open Go Go.RowKit
set_option linter.unusedVariables false
set_option linter.unusedSimpArgs false

/-- how many bits of the n lowest ones there are -/
def pcr : Nat → Nat → Nat
  | 0, _ => 0
  | n + 1, x => x % 2 + pcr n (x / 2)

/-- the sum of digits -/
def dsum (B : Nat) : Nat → Nat → Nat
  | 0, _ => 0
  | n + 1, x => x % B + dsum B n (x / B)

/-- neighbours added -/
def nb (B : Nat) : Nat → Nat → Nat
  | 0, _ => 0
  | n + 1, x => (x % B + x / B % B) + B * B * nb B n (x / (B * B))

/-- the mask of every other digit -/
def mk (B : Nat) : Nat → Nat
  | 0 => 0
  | n + 1 => (B - 1) + B * B * mk B n

/-- every digit is at most m -/
def dle (B m : Nat) : Nat → Nat → Prop
  | 0, _ => True
  | n + 1, x => x % B ≤ m ∧ dle B m n (x / B)

theorem and_join (j X M u v : Nat) (hu : u < 2 ^ j) (hv : v < 2 ^ j) : (2 ^ j * X + u) &&& (2 ^ j * M + v) = 2 ^ j * (X &&& M) + (u &&& v) := by
  apply Nat.eq_of_testBit_eq
  intro i
  rw [Nat.testBit_and, Nat.testBit_two_pow_mul_add _ hu, Nat.testBit_two_pow_mul_add _ hv, Nat.testBit_two_pow_mul_add _ (Nat.lt_of_le_of_lt Nat.and_le_left hu)]
  split <;> simp

theorem low_and2 (u : Nat) (hu : u < 4) : u &&& 1 = u % 2 := by
  rw [show (1 : Nat) = 2 ^ 1 - 1 from rfl, Nat.and_two_pow_sub_one_eq_mod]

theorem low_and4 (u : Nat) : u &&& 3 = u % 4 := by
  rw [show (3 : Nat) = 2 ^ 2 - 1 from rfl, Nat.and_two_pow_sub_one_eq_mod]

theorem low_and16 (u : Nat) : u &&& 15 = u % 16 := by
  rw [show (15 : Nat) = 2 ^ 4 - 1 from rfl, Nat.and_two_pow_sub_one_eq_mod]

theorem step1 : ∀ n x, (x / 2 &&& mk 2 n) + (x &&& mk 2 n) = nb 2 n x
  | 0, x => by simp [mk, nb]
  | n + 1, x => by
    have ih := step1 n (x / 4)
    have e1 : x = 2 ^ 2 * (x / 4) + x % 4 := by omega
    have e2 : x / 2 = 2 ^ 2 * (x / 4 / 2) + x / 2 % 4 := by omega
    have e3 : mk 2 (n + 1) = 2 ^ 2 * mk 2 n + 1 := by simp [mk]; omega
    have a1 : x &&& mk 2 (n + 1) = 2 ^ 2 * (x / 4 &&& mk 2 n) + (x % 4 &&& 1) := by
      rw [e3]; conv => lhs; rw [e1]
      exact and_join 2 _ _ _ _ (by omega) (by omega)
    have a2 : x / 2 &&& mk 2 (n + 1) = 2 ^ 2 * (x / 4 / 2 &&& mk 2 n) + (x / 2 % 4 &&& 1) := by
      rw [e3]; conv => lhs; rw [e2]
      exact and_join 2 _ _ _ _ (by omega) (by omega)
    rw [a1, a2, low_and2 _ (by omega), low_and2 _ (by omega)]
    simp only [nb, Nat.reduceMul]
    omega

theorem step2 : ∀ n x, (x / 4 &&& mk 4 n) + (x &&& mk 4 n) = nb 4 n x
  | 0, x => by simp [mk, nb]
  | n + 1, x => by
    have ih := step2 n (x / 16)
    have e1 : x = 2 ^ 4 * (x / 16) + x % 16 := by omega
    have e2 : x / 4 = 2 ^ 4 * (x / 16 / 4) + x / 4 % 16 := by omega
    have e3 : mk 4 (n + 1) = 2 ^ 4 * mk 4 n + 3 := by simp [mk]; omega
    have a1 : x &&& mk 4 (n + 1) = 2 ^ 4 * (x / 16 &&& mk 4 n) + (x % 16 &&& 3) := by
      rw [e3]; conv => lhs; rw [e1]
      exact and_join 4 _ _ _ _ (by omega) (by omega)
    have a2 : x / 4 &&& mk 4 (n + 1) = 2 ^ 4 * (x / 16 / 4 &&& mk 4 n) + (x / 4 % 16 &&& 3) := by
      rw [e3]; conv => lhs; rw [e2]
      exact and_join 4 _ _ _ _ (by omega) (by omega)
    rw [a1, a2, low_and4, low_and4]
    simp only [nb, Nat.reduceMul]
    omega

theorem step3 : ∀ n x, dle 16 4 (2 * n) x → x < 256 ^ n → (x / 16 + x) &&& mk 16 n = nb 16 n x
  | 0, x, _, _ => by simp [mk, nb]
  | n + 1, x, h, hx => by
    obtain ⟨h1, h2, h3⟩ : x % 16 ≤ 4 ∧ x / 16 % 16 ≤ 4 ∧ dle 16 4 (2 * n) (x / 16 / 16) := h
    have e0 : x / 16 / 16 = x / 256 := by omega
    rw [e0] at h3
    have hx' : x / 256 < 256 ^ n := by rw [Nat.pow_succ] at hx; exact Nat.div_lt_of_lt_mul (by rw [Nat.mul_comm]; exact hx)
    have ih := step3 n (x / 256) h3 hx'
    have h4 : x / 256 % 16 ≤ 4 := by
      cases n with
      | zero => simp at hx'; omega
      | succ n => exact h3.1
    have e1 : x / 16 + x = 2 ^ 8 * (x / 256 / 16 + x / 256) + (x % 16 + x / 16 % 16 + 16 * (x / 16 % 16 + x / 256 % 16)) := by omega
    have e3 : mk 16 (n + 1) = 2 ^ 8 * mk 16 n + 15 := by simp [mk]; omega
    rw [e3, e1, and_join 8 _ _ _ _ (by omega) (by omega), ih, low_and16]
    simp only [nb, Nat.reduceMul]
    omega

theorem nb2_sum : ∀ n x, dsum 4 n (nb 2 n x) = pcr (2 * n) x ∧ dle 4 2 n (nb 2 n x) ∧ nb 2 n x < 4 ^ n
  | 0, x => by simp [dsum, nb, pcr, dle]
  | n + 1, x => by
    obtain ⟨i1, i2, i3⟩ := nb2_sum n (x / 4)
    have e : nb 2 (n + 1) x = (x % 2 + x / 2 % 2) + 4 * nb 2 n (x / 4) := by simp only [nb, Nat.reduceMul]
    have e1 : nb 2 (n + 1) x % 4 = x % 2 + x / 2 % 2 := by rw [e]; omega
    have e2 : nb 2 (n + 1) x / 4 = nb 2 n (x / 4) := by rw [e]; omega
    refine ⟨?_, ⟨by rw [e1]; omega, by rw [e2]; exact i2⟩, by rw [e, Nat.pow_succ]; omega⟩
    show nb 2 (n + 1) x % 4 + dsum 4 n (nb 2 (n + 1) x / 4) = x % 2 + (x / 2 % 2 + pcr (2 * n) (x / 2 / 2))
    rw [e1, e2, i1, Nat.div_div_eq_div_mul]
    simp only [Nat.reduceMul]
    omega

theorem nb4_sum : ∀ n x, dle 4 2 (2 * n) x → dsum 16 n (nb 4 n x) = dsum 4 (2 * n) x ∧ dle 16 4 n (nb 4 n x) ∧ nb 4 n x < 16 ^ n
  | 0, x, _ => by simp [dsum, nb, dle]
  | n + 1, x, h => by
    obtain ⟨h1, h2, h3⟩ : x % 4 ≤ 2 ∧ x / 4 % 4 ≤ 2 ∧ dle 4 2 (2 * n) (x / 4 / 4) := h
    rw [Nat.div_div_eq_div_mul] at h3
    obtain ⟨i1, i2, i3⟩ := nb4_sum n (x / 16) h3
    have e : nb 4 (n + 1) x = (x % 4 + x / 4 % 4) + 16 * nb 4 n (x / 16) := by simp only [nb, Nat.reduceMul]
    have e1 : nb 4 (n + 1) x % 16 = x % 4 + x / 4 % 4 := by rw [e]; omega
    have e2 : nb 4 (n + 1) x / 16 = nb 4 n (x / 16) := by rw [e]; omega
    refine ⟨?_, ⟨by rw [e1]; omega, by rw [e2]; exact i2⟩, by rw [e, Nat.pow_succ]; omega⟩
    show nb 4 (n + 1) x % 16 + dsum 16 n (nb 4 (n + 1) x / 16) = x % 4 + (x / 4 % 4 + dsum 4 (2 * n) (x / 4 / 4))
    rw [e1, e2, i1, Nat.div_div_eq_div_mul]
    simp only [Nat.reduceMul]
    omega

theorem nb16_sum : ∀ n x, dle 16 4 (2 * n) x → dsum 256 n (nb 16 n x) = dsum 16 (2 * n) x ∧ dle 256 8 n (nb 16 n x) ∧ nb 16 n x < 256 ^ n
  | 0, x, _ => by simp [dsum, nb, dle]
  | n + 1, x, h => by
    obtain ⟨h1, h2, h3⟩ : x % 16 ≤ 4 ∧ x / 16 % 16 ≤ 4 ∧ dle 16 4 (2 * n) (x / 16 / 16) := h
    rw [Nat.div_div_eq_div_mul] at h3
    obtain ⟨i1, i2, i3⟩ := nb16_sum n (x / 256) h3
    have e : nb 16 (n + 1) x = (x % 16 + x / 16 % 16) + 256 * nb 16 n (x / 256) := by simp only [nb, Nat.reduceMul]
    have e1 : nb 16 (n + 1) x % 256 = x % 16 + x / 16 % 16 := by rw [e]; omega
    have e2 : nb 16 (n + 1) x / 256 = nb 16 n (x / 256) := by rw [e]; omega
    refine ⟨?_, ⟨by rw [e1]; omega, by rw [e2]; exact i2⟩, by rw [e, Nat.pow_succ]; omega⟩
    show nb 16 (n + 1) x % 256 + dsum 256 n (nb 16 (n + 1) x / 256) = x % 16 + (x / 16 % 16 + dsum 16 (2 * n) (x / 16 / 16))
    rw [e1, e2, i1, Nat.div_div_eq_div_mul]
    simp only [Nat.reduceMul]
    omega

theorem pcr_le : ∀ n x, pcr n x ≤ n
  | 0, _ => Nat.le_refl _
  | n + 1, x => by have := pcr_le n (x / 2); simp only [pcr]; omega

theorem div256 (u v : Nat) (h : u < 256) : (u + 256 * v) / 256 = v := by omega

theorem div65536 (u v : Nat) (h : u < 65536) : (u + 65536 * v) / 65536 = v := by omega

theorem div32 (u v : Nat) (h : u < 4294967296) : (u + 4294967296 * v) / 4294967296 = v := by omega

theorem mod128 (u v : Nat) (h : u < 128) : (u + 256 * v) % 128 = u := by omega

theorem lin_a (e0 e1 e2 e3 e4 e5 e6 e7 : Nat) : e0 + 256 * (e1 + 256 * e2 + 65536 * e3 + 16777216 * e4 + 4294967296 * e5 + 1099511627776 * e6 + 281474976710656 * e7) + (e1 + 256 * e2 + 65536 * e3 + 16777216 * e4 + 4294967296 * e5 + 1099511627776 * e6 + 281474976710656 * e7)
    = (e0 + e1 + 256 * (e1 + e2)) + 65536 * ((e2 + e3) + 256 * (e3 + e4) + 65536 * (e4 + e5) + 16777216 * (e5 + e6) + 4294967296 * (e6 + e7) + 1099511627776 * e7) := by omega

theorem lin_b (e0 e1 e2 e3 e4 e5 e6 e7 : Nat) : (e0 + e1 + 256 * (e1 + e2)) + 65536 * ((e2 + e3) + 256 * (e3 + e4) + 65536 * (e4 + e5) + 16777216 * (e5 + e6) + 4294967296 * (e6 + e7) + 1099511627776 * e7) + ((e2 + e3) + 256 * (e3 + e4) + 65536 * (e4 + e5) + 16777216 * (e5 + e6) + 4294967296 * (e6 + e7) + 1099511627776 * e7)
    = (e0 + e1 + e2 + e3 + 256 * (e1 + e2 + e3 + e4) + 65536 * (e2 + e3 + e4 + e5) + 16777216 * (e3 + e4 + e5 + e6)) + 4294967296 * ((e4 + e5 + e6 + e7) + 256 * (e5 + e6 + e7) + 65536 * (e6 + e7) + 16777216 * e7) := by omega

theorem lin_c (e0 e1 e2 e3 e4 e5 e6 e7 : Nat) : (e0 + e1 + e2 + e3 + 256 * (e1 + e2 + e3 + e4) + 65536 * (e2 + e3 + e4 + e5) + 16777216 * (e3 + e4 + e5 + e6)) + 4294967296 * ((e4 + e5 + e6 + e7) + 256 * (e5 + e6 + e7) + 65536 * (e6 + e7) + 16777216 * e7) + ((e4 + e5 + e6 + e7) + 256 * (e5 + e6 + e7) + 65536 * (e6 + e7) + 16777216 * e7)
    = (e0 + e1 + e2 + e3 + e4 + e5 + e6 + e7) + 256 * ((e1 + e2 + e3 + e4 + e5 + e6 + e7) + 256 * (e2 + e3 + e4 + e5 + e6 + e7) + 65536 * (e3 + e4 + e5 + e6 + e7) + 16777216 * (e4 + e5 + e6 + e7) + 4294967296 * (e5 + e6 + e7) + 1099511627776 * (e6 + e7) + 281474976710656 * e7) := by omega

set_option maxHeartbeats 400000 in
theorem fold_e (e0 e1 e2 e3 e4 e5 e6 e7 : Nat) (g0 : e0 ≤ 8) (g1 : e1 ≤ 8) (g2 : e2 ≤ 8) (g3 : e3 ≤ 8) (g4 : e4 ≤ 8) (g5 : e5 ≤ 8) (g6 : e6 ≤ 8) (g7 : e7 ≤ 8)
    (y a b c : Nat) (hy : y = e0 + 256 * (e1 + 256 * e2 + 65536 * e3 + 16777216 * e4 + 4294967296 * e5 + 1099511627776 * e6 + 281474976710656 * e7))
    (ha : a = y + y / 256) (hb : b = a + a / 65536) (hc : c = b + b / 4294967296) :
    a < 18446744073709551616 ∧ b < 18446744073709551616 ∧ c < 9223372036854775808 ∧ c % 128 = e0 + e1 + e2 + e3 + e4 + e5 + e6 + e7 := by
  have d1 := div256 e0 (e1 + 256 * e2 + 65536 * e3 + 16777216 * e4 + 4294967296 * e5 + 1099511627776 * e6 + 281474976710656 * e7) (Nat.lt_of_le_of_lt g0 (by decide))
  rw [hy, d1, lin_a] at ha
  have hu : e0 + e1 + 256 * (e1 + e2) < 65536 := by clear hy d1 ha hb hc; omega
  have d2 := div65536 (e0 + e1 + 256 * (e1 + e2)) ((e2 + e3) + 256 * (e3 + e4) + 65536 * (e4 + e5) + 16777216 * (e5 + e6) + 4294967296 * (e6 + e7) + 1099511627776 * e7) hu
  rw [ha, d2, lin_b] at hb
  have hv : (e0 + e1 + e2 + e3 + 256 * (e1 + e2 + e3 + e4) + 65536 * (e2 + e3 + e4 + e5) + 16777216 * (e3 + e4 + e5 + e6)) < 4294967296 := by clear hy d1 ha hb hc d2; omega
  have d3 := div32 _ ((e4 + e5 + e6 + e7) + 256 * (e5 + e6 + e7) + 65536 * (e6 + e7) + 16777216 * e7) hv
  rw [hb, d3, lin_c] at hc
  clear d1 d2 d3 hu hv hy
  refine ⟨?_, ?_, ?_, ?_⟩
  · rw [ha]; clear ha hb hc; omega
  · rw [hb]; clear ha hb hc; omega
  · rw [hc]; clear ha hb hc; omega
  · rw [hc]; exact mod128 _ _ (by clear ha hb hc; omega)

theorem horner (y y1 y2 y3 y4 y5 y6 y7 r0 r1 r2 r3 r4 r5 r6 r7 : Nat) (p0 : y = r0 + 256 * y1) (p1 : y1 = r1 + 256 * y2) (p2 : y2 = r2 + 256 * y3) (p3 : y3 = r3 + 256 * y4) (p4 : y4 = r4 + 256 * y5) (p5 : y5 = r5 + 256 * y6) (p6 : y6 = r6 + 256 * y7) (p7 : y7 = r7) :
    y = r0 + 256 * (r1 + 256 * r2 + 65536 * r3 + 16777216 * r4 + 4294967296 * r5 + 1099511627776 * r6 + 281474976710656 * r7) := by
  subst p7 p6 p5 p4 p3 p2 p1
  rw [p0]; clear p0; omega

theorem modiv (x : Nat) : x = x % 256 + 256 * (x / 256) := by omega

/-- the bytes' sum, by three shifts -/
theorem fold8 (y a b c : Nat) (h : dle 256 8 8 y) (hy : y < 256 ^ 8) (ha : a = y + y / 256) (hb : b = a + a / 65536) (hc : c = b + b / 4294967296) :
    a < 18446744073709551616 ∧ b < 18446744073709551616 ∧ c < 9223372036854775808 ∧ c % 128 = dsum 256 8 y := by
  obtain ⟨h0, h1, h2, h3, h4, h5, h6, h7, _⟩ := h
  have hy' : y / 256 / 256 / 256 / 256 / 256 / 256 / 256 = y / 256 / 256 / 256 / 256 / 256 / 256 / 256 % 256 := by
    have : y / 256 / 256 / 256 / 256 / 256 / 256 / 256 < 256 := by
      simp only [Nat.div_div_eq_div_mul, Nat.reduceMul]
      simp only [Nat.reducePow] at hy
      clear ha hb hc h0 h1 h2 h3 h4 h5 h6 h7
      omega
    exact (Nat.mod_eq_of_lt this).symm
  have r := fold_e _ _ _ _ _ _ _ _ h0 h1 h2 h3 h4 h5 h6 h7 y a b c (horner _ _ _ _ _ _ _ _ _ _ _ _ _ _ _ _ (modiv _) (modiv _) (modiv _) (modiv _) (modiv _) (modiv _) (modiv _) hy') ha hb hc
  refine ⟨r.1, r.2.1, r.2.2.1, ?_⟩
  rw [r.2.2.2]
  simp only [dsum, Nat.add_zero, Nat.add_assoc]
end

section
open Go Go.RowKit
set_option linter.unusedVariables false
set_option linter.unusedSimpArgs false
open Go.RowKit

/-- the bytes of a number, the highest first -/
def spl (n s : Int) : List Int := if s = 1 then [n % 256] else if s = 2 then [n / 256 % 256, n % 256] else [n / 16777216, n / 65536 % 256, n / 256 % 256, n % 256]
end

section
open Go Go.RowKit
set_option linter.unusedVariables false
set_option linter.unusedSimpArgs false

theorem wpList_wanted {P : Program} {w : World} {ops : Array Oper} {rest : List Oper} {o : Oper} {a : Act} {Q : Exit → Act → World → Prop}
    (hw : Region.wanted o (yielded ops a.tmps) = true)
    (h : ∀ K : Act → World → Prop, (∀ a w, wpList P ops Q rest a w → K a w) → o.wp P a w K Q) : wpList P ops Q (o :: rest) a w :=
  wpList_step fun K hK => by rw [if_pos hw]; exact h K hK
end

end Go.Proofs.Ytbdbehdgpmfelaa
