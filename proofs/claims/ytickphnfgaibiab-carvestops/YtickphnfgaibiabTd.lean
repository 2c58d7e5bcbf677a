import Derived.Test.YtickphnfgaibiabR
import Derived.Test.YtickphnfgaibiabS
import Derived.Test.YtickphnfgaibiabTa
import Derived.Below
import Derived.BigQuiet
import Derived.BigRegion
import Derived.ChangeAlike
import Derived.ChangeKeysEq
import Derived.ChangeSame
import Derived.DataElems
import Derived.Deep.MidRow
import Derived.Deep.QuietTactic
import Derived.Deep.RegionHeld
import Derived.Deep.RegionHeld3
import Derived.Deep.RegionLaw
import Derived.Deep.RegionLawGrows
import Derived.Deep.RegionWith
import Derived.Deep.WholeRow
import Derived.Great.BuildSlice
import Derived.Handy
import Derived.Laws.AppendOwn
import Derived.Laws.AppendOwnNone
import Derived.Laws.BitsAllLaws
import Derived.Laws.BitsLemmas
import Derived.Laws.CopyOwn
import Derived.Laws.OwnMore
import Derived.Laws.Rows
import Derived.Laws.StructEq
import Derived.Laws.Tables
import Derived.Lib.BitFns
import Derived.Lib.SmallJoins
import Derived.OpenShut
import Derived.ProofKit
import Derived.RegionTactic
import Derived.WalkKit
import Derived.WalkLawsBesides
import Derived.WalkSmall
import Derived.WalkSpells
import Derived.WideShapes
namespace Go.Proofs.Ytickphnfgaibiab
open Go Go.RowKit
set_option linter.unusedVariables false
set_option linter.unusedSimpArgs false

theorem bitLen_spec : ∀ (n x : Nat), x < 2 ^ n → n ≤ 64 → x ≠ 0 → 0 < Lib.bitLen x ∧ Lib.bitLen x ≤ 64 ∧ 2 ^ (Lib.bitLen x - 1) ≤ x ∧ x < 2 ^ Lib.bitLen x
  | 0, x, h, _, h0 => by simp at h; exact absurd h h0
  | n + 1, x, h, hn, h0 => by
    have h64 : x < 2 ^ 64 := Nat.lt_of_lt_of_le h (Nat.pow_le_pow_right (by decide) hn)
    have e := Lib.bitLen_half x h0 h64
    have hle := Lib.bitLen_le x 64 (by decide) h64
    by_cases hx : x / 2 = 0
    · have h1 : x = 1 := by omega
      subst h1
      have : Lib.bitLen 1 = 1 := by decide
      rw [this]; decide
    · obtain ⟨a, b, c, d⟩ := bitLen_spec n (x / 2) (by rw [Nat.pow_succ] at h; omega) (by omega) hx
      rw [e] at hle ⊢
      generalize Lib.bitLen (x / 2) = m at *
      refine ⟨by omega, hle, ?_, ?_⟩
      · have : 1 + m - 1 = (m - 1) + 1 := by omega
        rw [this, Nat.pow_succ]; omega
      · rw [Nat.add_comm, Nat.pow_succ]; omega

theorem bitLen_top (x : Nat) (h : x < 18446744073709551616) (h0 : x ≠ 0) : 0 < Lib.bitLen x ∧ Lib.bitLen x ≤ 64 ∧ x.testBit (Lib.bitLen x - 1) = true ∧ ∀ j, Lib.bitLen x ≤ j → x.testBit j = false := by
  obtain ⟨a, b, c, d⟩ := bitLen_spec 64 x h (by decide) h0
  refine ⟨a, b, ?_, fun j hj => Nat.testBit_lt_two_pow (Nat.lt_of_lt_of_le d (Nat.pow_le_pow_right (by decide) hj))⟩
  generalize hm : Lib.bitLen x = m at *
  obtain ⟨k, rfl⟩ : ∃ k, m = k + 1 := ⟨m - 1, by omega⟩
  rw [Nat.add_sub_cancel] at c ⊢
  rw [Nat.testBit_eq_decide_div_mod_eq]
  rw [Nat.pow_succ] at d
  have hp : 0 < 2 ^ k := Nat.pow_pos (by decide)
  have h1 : x / 2 ^ k = 1 := by
    have l1 : 1 ≤ x / 2 ^ k := (Nat.le_div_iff_mul_le hp).2 (by omega)
    have l2 : x / 2 ^ k < 2 := (Nat.div_lt_iff_lt_mul hp).2 (by omega)
    omega
  rw [h1]; rfl

/-- the places below k that p has, falling -/
def fall (p : Nat → Bool) : Nat → List Nat
  | 0 => []
  | k + 1 => if p k then k :: fall p k else fall p k

theorem fall_congr {p q : Nat → Bool} : ∀ {k : Nat}, (∀ i, i < k → p i = q i) → fall p k = fall q k
  | 0, _ => rfl
  | k + 1, h => by
    rw [fall, fall, h k (Nat.lt_succ_self k), fall_congr (k := k) (fun i hi => h i (by omega))]

theorem fall_none {p : Nat → Bool} : ∀ {k : Nat}, (∀ i, i < k → p i = false) → fall p k = []
  | 0, _ => rfl
  | k + 1, h => by
    rw [fall, h k (Nat.lt_succ_self k), if_neg (by decide)]
    exact fall_none (k := k) (fun i hi => h i (by omega))

theorem fall_above {p : Nat → Bool} {t : Nat} : ∀ (d : Nat), (∀ j, t ≤ j → j < t + d → p j = false) → fall p (t + d) = fall p t
  | 0, _ => rfl
  | d + 1, h => by
    show fall p ((t + d) + 1) = _
    rw [fall, h (t + d) (by omega) (by omega), if_neg (by decide)]
    exact fall_above d (fun j h1 h2 => h j h1 (by omega))

theorem fall_top {p q : Nat → Bool} {t k : Nat} (ht : t < k) (hp : p t = true) (ha : ∀ j, t < j → j < k → p j = false) (hq : ∀ i, i < k → q i = (p i && decide (i ≠ t))) : fall p k = t :: fall q k := by
  obtain ⟨d, rfl⟩ : ∃ d, k = (t + 1) + d := ⟨k - (t + 1), by omega⟩
  rw [fall_above d (fun j h1 h2 => ha j (by omega) h2), fall, if_pos hp]
  congr 1
  have e1 : fall q (t + 1 + d) = fall q t := by
    have : t + 1 + d = t + (d + 1) := by omega
    rw [this]
    refine fall_above (d + 1) (fun j h1 h2 => ?_)
    rw [hq j (by omega)]
    by_cases e : j = t
    · subst e; simp
    · rw [ha j (by omega) (by omega)]; simp
  rw [e1]
  refine fall_congr (fun i hi => ?_)
  rw [hq i (by omega)]
  have : i ≠ t := by omega
  simp [this]

theorem fall_len (p : Nat → Bool) : ∀ k, (fall p k).length ≤ k
  | 0 => Nat.le_refl _
  | k + 1 => by
    rw [fall]
    have := fall_len p k
    split
    · simp; omega
    · omega

theorem fall_mem (p : Nat → Bool) : ∀ k x, x ∈ fall p k ↔ x < k ∧ p x = true
  | 0, x => by simp [fall]
  | k + 1, x => by
    rw [fall]
    have := fall_mem p k x
    split
    · rename_i h
      rw [List.mem_cons, this]
      constructor
      · rintro (rfl | ⟨h1, h2⟩)
        · exact ⟨by omega, h⟩
        · exact ⟨by omega, h2⟩
      · rintro ⟨h1, h2⟩
        by_cases e : x = k
        · exact Or.inl e
        · exact Or.inr ⟨by omega, h2⟩
    · rename_i h
      rw [this]
      constructor
      · rintro ⟨h1, h2⟩; exact ⟨by omega, h2⟩
      · rintro ⟨h1, h2⟩
        refine ⟨?_, h2⟩
        by_cases e : x = k
        · subst e; exact absurd h2 h
        · omega

/-- the place of the highest bit -/
def top (a b : Nat) : Nat := if a = 0 then Lib.bitLen b - 1 else 64 + Lib.bitLen a - 1

theorem bit_hasb (t i : Nat) (ht : t < 128) (hi : i < 128) : hasb (bh t) (bl t) i = decide (i = t) := by
  unfold hasb bh bl
  by_cases h1 : i < 64 <;> by_cases h2 : t < 64 <;> simp [h1, h2, Nat.testBit_two_pow]
  all_goals omega

theorem less_hasb (a b c d i : Nat) (hc : c < 18446744073709551616) (hd : d < 18446744073709551616) (hi : i < 128) : hasb (andn a c) (andn b d) i = (hasb a b i && !hasb c d i) := by
  unfold hasb
  by_cases h1 : i < 64
  · rw [if_pos h1, if_pos h1, if_pos h1, tb_andn b d hd]; simp [h1]
  · rw [if_neg h1, if_neg h1, if_neg h1, tb_andn a c hc]
    have : i - 64 < 64 := by omega
    simp [this]

theorem zero_hasb {a b : Nat} (h : (a == 0 && b == 0) = true) (i : Nat) : hasb a b i = false := by
  simp at h
  obtain ⟨rfl, rfl⟩ := h
  unfold hasb; split <;> simp

theorem top_spec (a b : Nat) (ha : a < 18446744073709551616) (hb : b < 18446744073709551616) (h : (a == 0 && b == 0) = false) : top a b < 128 ∧ hasb a b (top a b) = true ∧ ∀ j, top a b < j → j < 128 → hasb a b j = false := by
  unfold top
  by_cases h0 : a = 0
  · subst h0
    have hb0 : b ≠ 0 := by rintro rfl; simp at h
    obtain ⟨p, q, r, s⟩ := bitLen_top b hb hb0
    rw [if_pos rfl]
    refine ⟨by omega, ?_, fun j h1 h2 => ?_⟩
    · rw [hasb_lo _ _ _ (by omega)]; exact r
    · by_cases h3 : j < 64
      · rw [hasb_lo _ _ _ h3]; exact s j (by omega)
      · rw [hasb_hi _ _ _ h3]; simp
  · obtain ⟨p, q, r, s⟩ := bitLen_top a ha h0
    rw [if_neg h0]
    refine ⟨by omega, ?_, fun j h1 h2 => ?_⟩
    · rw [hasb_hi _ _ _ (by omega), show 64 + Lib.bitLen a - 1 - 64 = Lib.bitLen a - 1 by omega]; exact r
    · rw [hasb_hi _ _ _ (by omega)]; exact s _ (by omega)

theorem fall_round (a b : Nat) (ha : a < 18446744073709551616) (hb : b < 18446744073709551616) (h : (a == 0 && b == 0) = false) :
    fall (hasb a b) 128 = top a b :: fall (hasb (andn a (bh (top a b))) (andn b (bl (top a b)))) 128 := by
  obtain ⟨h1, h2, h3⟩ := top_spec a b ha hb h
  refine fall_top h1 h2 h3 (fun i hi => ?_)
  rw [less_hasb _ _ _ _ _ (bh_lt _ h1) (bl_lt _) hi, bit_hasb _ _ h1 hi]
  simp

end Go.Proofs.Ytickphnfgaibiab
