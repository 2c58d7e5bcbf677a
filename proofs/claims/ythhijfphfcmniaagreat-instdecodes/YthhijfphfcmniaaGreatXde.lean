import Derived.Test.YthhijfphfcmniaaGreatProg
import Derived.Test.YthhijfphfcmniaaGreatXae
import Derived.WalkKit
import Derived.WalkSpells
import Derived.WalkLawsBesides
import Derived.Below
import Derived.Handy
import Derived.BigQuiet
import Derived.BigRegion
import Derived.Deep.QuietTactic
import Derived.Deep.RegionHeld3
import Derived.Deep.RegionLaw
import Derived.Deep.RegionLawGrows
import Derived.Laws.AppendOwn
import Derived.Laws.AppendOwnNone
import Derived.Laws.BitsAllLaws
import Derived.Laws.BitsLemmas
import Derived.Laws.CopyOwn
import Derived.Laws.OwnMore
import Derived.Laws.Rows
import Derived.Laws.StructEq
import Derived.OpenShut
import Derived.ProofKit
import Derived.RegionTactic
import Derived.WalkSmall
set_option maxRecDepth 100000
set_option maxHeartbeats 8000000
set_option linter.unusedVariables false
set_option linter.unusedSimpArgs false
namespace Go.Proofs.YthhijfphfcmniaaGreat
section
open Go Go.RowKit
theorem wu64 (n : Nat) (h : n < 18446744073709551616) : IntKind.u64.wrap (n : Int) = (n : Int) := by
  rw [IntKind.wrap_u64]; omega
def wd (a b : Nat) : Value := .agg #[.int .u64 (a : Int), .int .u64 (b : Int)]
def andn (a c : Nat) : Nat := a &&& (18446744073709551615 - c)
theorem ret_agg {a b c d : Int} (h : a = c) (k : b = d) : Ending.returned (.agg #[.int .u64 a, .int .u64 b]) = .returned (.agg #[.int .u64 c, .int .u64 d]) := by rw [h, k]
theorem ror_any (a b c d : Nat) (w : World) (ha : a < 18446744073709551616) (hb : b < 18446744073709551616) (hc : c < 18446744073709551616) (hd : d < 18446744073709551616) :
    Calls Tryz.prog 169 #[wd a b, wd c d] w fun e w' => e = .returned (wd (a ||| c) (b ||| d)) ∧ Below w.heap.size w w' := by
  have e1 := u64_or_nat a c ha hc
  have e2 := u64_or_nat b d hb hd
  have E1 := h_ e1
  have E2 := h_ e2
  clear e1 e2
  unfold wd
  go_enter Tryz.func169, Tryz.ntmps169
  go_wp2
  go_returns
  exact ⟨ret_agg E1.out E2.out, by go_grown⟩
theorem less_any (a b c d : Nat) (w : World) (ha : a < 18446744073709551616) (hb : b < 18446744073709551616) (hc : c < 18446744073709551616) (hd : d < 18446744073709551616) :
    Calls Tryz.prog 80 #[wd a b, wd c d] w fun e w' => e = .returned (wd (andn a c) (andn b d)) ∧ Below w.heap.size w w' := by
  have e1 := u64_andNot_nat a c ha hc
  have e2 := u64_andNot_nat b d hb hd
  have E1 := h_ e1
  have E2 := h_ e2
  clear e1 e2
  unfold wd
  go_enter Tryz.func80, Tryz.ntmps80
  go_wp2
  go_returns
  exact ⟨ret_agg E1.out E2.out, by go_grown⟩
theorem rless_any (a b c d : Nat) (w : World) (ha : a < 18446744073709551616) (hb : b < 18446744073709551616) (hc : c < 18446744073709551616) (hd : d < 18446744073709551616) :
    Calls Tryz.prog 88 #[wd a b, wd c d] w fun e w' => e = .returned (wd (andn a c) (andn b d)) ∧ Below w.heap.size w w' := by
  have e1 := u64_andNot_nat a c ha hc
  have e2 := u64_andNot_nat b d hb hd
  have E1 := h_ e1
  have E2 := h_ e2
  clear e1 e2
  unfold wd
  go_enter Tryz.func88, Tryz.ntmps88
  go_wp2
  go_returns
  exact ⟨ret_agg E1.out E2.out, by go_grown⟩
theorem zero_any (a b : Nat) (w : World) :
    Calls Tryz.prog 79 #[wd a b] w fun e w' => e = .returned (.bool (a == 0 && b == 0)) ∧ Below w.heap.size w w' := by
  unfold wd
  cases h : (a == 0)
  · have h' : (((a : Nat) : Int) == 0) = false := by simpa using h
    go_enter Tryz.func79, Tryz.ntmps79
    go_wp2
    go_ret
    exact ⟨by simp, by go_grown⟩
  · have h' : a = 0 := by simpa using h
    subst h'
    cases k : (b == 0)
    · have k' : (((b : Nat) : Int) == 0) = false := by simpa using k
      go_enter Tryz.func79, Tryz.ntmps79
      go_wp2
      go_ret
      exact ⟨by simp, by go_grown⟩
    · have k' : b = 0 := by simpa using k
      subst k'
      go_enter Tryz.func79, Tryz.ntmps79
      go_wp2
      go_ret
      exact ⟨rfl, by go_grown⟩
theorem rzero_any (a b : Nat) (w : World) :
    Calls Tryz.prog 87 #[wd a b] w fun e w' => e = .returned (.bool (a == 0 && b == 0)) ∧ Below w.heap.size w w' := by
  unfold wd
  cases h : (a == 0)
  · have h' : (((a : Nat) : Int) == 0) = false := by simpa using h
    go_enter Tryz.func87, Tryz.ntmps87
    go_wp2
    go_ret
    exact ⟨by simp, by go_grown⟩
  · have h' : a = 0 := by simpa using h
    subst h'
    cases k : (b == 0)
    · have k' : (((b : Nat) : Int) == 0) = false := by simpa using k
      go_enter Tryz.func87, Tryz.ntmps87
      go_wp2
      go_ret
      exact ⟨by simp, by go_grown⟩
    · have k' : b = 0 := by simpa using k
      subst k'
      go_enter Tryz.func87, Tryz.ntmps87
      go_wp2
      go_ret
      exact ⟨rfl, by go_grown⟩
def lowb (t : Nat) : Nat := 2 ^ t - 1
def cl (n : Int) (m : Nat) : Nat := (min (max n 0) (m : Int)).toNat
def bh (i : Nat) : Nat := if i < 64 then 0 else 2 ^ (i - 64)
def bl (i : Nat) : Nat := if i < 64 then 2 ^ i else 0
theorem pow_lt64 (t : Nat) (h : t < 64) : 2 ^ t < 18446744073709551616 := by
  have : 2 ^ t < 2 ^ 64 := Nat.pow_lt_pow_right (by decide) h
  simpa using this
theorem lowb_lt (t : Nat) (h : t ≤ 64) : lowb t < 18446744073709551616 := by
  unfold lowb
  have h1 : 2 ^ t ≤ 2 ^ 64 := Nat.pow_le_pow_right (by decide) h
  have h2 : 0 < 2 ^ t := Nat.two_pow_pos t
  simp only [Nat.reducePow] at h1
  omega
theorem bh_lt (i : Nat) (h : i < 128) : bh i < 18446744073709551616 := by
  unfold bh; split
  · omega
  · exact pow_lt64 _ (by omega)
theorem bl_lt (i : Nat) : bl i < 18446744073709551616 := by
  unfold bl; split
  · exact pow_lt64 _ (by omega)
  · omega
theorem ones_val (t : Nat) (h : t ≤ 64) : IntKind.u64.wrap (IntKind.u64.wrap ((2 : Int) ^ t) - 1) = ((lowb t : Nat) : Int) := by
  unfold lowb
  rcases Nat.lt_or_ge t 64 with h' | h'
  · have h1 := pow_lt64 t h'
    have h2 : 0 < 2 ^ t := Nat.two_pow_pos t
    have e : ((2 : Int) ^ t) = ((2 ^ t : Nat) : Int) := by simp
    rw [e, wu64 _ h1, IntKind.wrap_u64]
    omega
  · have : t = 64 := by omega
    subst this
    decide
theorem testBit_lowb (t i : Nat) : (lowb t).testBit i = decide (i < t) := Nat.testBit_two_pow_sub_one t i
theorem or_low (t : Nat) : lowb t ||| 2 ^ t = lowb (t + 1) := by
  apply Nat.eq_of_testBit_eq
  intro i
  rw [Nat.testBit_or, testBit_lowb, testBit_lowb, Nat.testBit_two_pow, Bool.eq_iff_iff]
  simp
  omega
theorem low_hi (i : Nat) : lowb (i - 64) ||| bh i = lowb (i + 1 - 64) := by
  unfold bh
  split
  · rw [show i + 1 - 64 = 0 by omega, show i - 64 = 0 by omega]; decide
  · rw [show i + 1 - 64 = (i - 64) + 1 by omega]; exact or_low _
theorem low_lo (i : Nat) : lowb (min i 64) ||| bl i = lowb (min (i + 1) 64) := by
  unfold bl
  split
  · rw [show min (i + 1) 64 = i + 1 by omega, show min i 64 = i by omega]; exact or_low _
  · rw [show min (i + 1) 64 = 64 by omega, show min i 64 = 64 by omega]; simp
theorem hold_any (n : Int) (m : Nat) (w : World) :
    Calls Tryz.prog 81 #[.int .i64 n, .int .i64 (m : Int)] w fun e w' => e = .returned (.int .i64 (cl n m : Nat)) ∧ w = w' := by
  have e : ((cl n m : Nat) : Int) = min (max n 0) (m : Int) := by unfold cl; omega
  rw [e]
  clear e
  by_cases h1 : n < 0
  · have h2 : ¬ (m : Int) < 0 := by omega
    go_enter Tryz.func81, Tryz.ntmps81
    go_wp2
    all_goals (go_ret; exact ⟨ret_int (by omega), rfl⟩)
  · by_cases h2 : (m : Int) < n
    · go_enter Tryz.func81, Tryz.ntmps81
      go_wp2
      all_goals (go_ret; exact ⟨ret_int (by omega), rfl⟩)
    · go_enter Tryz.func81, Tryz.ntmps81
      go_wp2
      all_goals (go_ret; exact ⟨ret_int (by omega), rfl⟩)
theorem hold_64 (n : Int) (w : World) :
    Calls Tryz.prog 81 #[.int .i64 n, .int .i64 64] w fun e w' => e = .returned (.int .i64 (cl n 64 : Nat)) ∧ w = w' := hold_any n 64 w
theorem hold_128 (n : Int) (w : World) :
    Calls Tryz.prog 81 #[.int .i64 n, .int .i64 128] w fun e w' => e = .returned (.int .i64 (cl n 128 : Nat)) ∧ w = w' := hold_any n 128 w
theorem hold_16 (n : Int) (w : World) :
    Calls Tryz.prog 81 #[.int .i64 n, .int .i64 16] w fun e w' => e = .returned (.int .i64 (cl n 16 : Nat)) ∧ w = w' := hold_any n 16 w
theorem cl_le (n : Int) (m : Nat) : cl n m ≤ m := by unfold cl; omega
theorem ones_any (n : Int) (w : World) :
    Calls Tryz.prog 82 #[.int .i64 n] w fun e w' => e = .returned (.int .u64 (lowb (cl n 64) : Nat)) ∧ w = w' := by
  have h := cl_le n 64
  generalize ht : cl n 64 = t at *
  have HT := h_ ht
  clear ht
  have HV := h_ (ones_val t h)
  go_enter Tryz.func82, Tryz.ntmps82
  go_wp2_with (go_at_call 81; refine (hold_64 _ _).mono ?_; rintro e w' ⟨rfl, rfl⟩; rw [HT.out])
  go_ret
  exact ⟨ret_int HV.out, rfl⟩
theorem cl_cl (n : Int) : cl ((cl n 128 : Nat) : Int) 64 = min (cl n 128) 64 := by
  have := cl_le n 128
  generalize cl n 128 = k at *
  unfold cl; omega
theorem cl_sub (n : Int) : cl (((cl n 128 : Nat) : Int) - 64) 64 = cl n 128 - 64 := by
  have := cl_le n 128
  generalize cl n 128 = k at *
  unfold cl; omega
theorem low_any (n : Int) (w : World) :
    Calls Tryz.prog 48 #[.int .i64 n] w fun e w' => e = .returned (wd (lowb (cl n 128 - 64)) (lowb (min (cl n 128) 64))) ∧ Below w.heap.size w w' := by
  rw [← cl_cl, ← cl_sub]
  have h := cl_le n 128
  generalize ht : cl n 128 = t at *
  have HT := h_ ht
  clear ht
  unfold wd
  go_enter Tryz.func48, Tryz.ntmps48
  go_wp2_with (first | (go_at_call 81; refine (hold_128 _ _).mono ?_; rintro e w' ⟨rfl, rfl⟩; rw [HT.out]) | (go_at_call 82; refine (ones_any _ _).mono ?_; rintro e w' ⟨rfl, rfl⟩))
  go_returns
  exact ⟨rfl, by go_grown⟩
theorem set2 {w : World} {g : Nat} {x y u v : Value} (h0 : w.cell? ⟨g, 0, none⟩ = some x) (h1 : w.cell? ⟨g, 1, none⟩ = some y) :
    (w.setCell ⟨g, 0, none⟩ u).cell? ⟨g, 0, none⟩ = some u ∧ ((w.setCell ⟨g, 0, none⟩ u).setCell ⟨g, 1, none⟩ v).cell? ⟨g, 1, none⟩ = some v := by
  have k0 := World.cell?_setCell_same w ⟨g, 0, none⟩ u h0
  have k1 : (w.setCell ⟨g, 0, none⟩ u).cell? ⟨g, 1, none⟩ = some y := by rw [World.cell?_setCell_other (h := (by simp : (⟨g, 0, none⟩ : Addr) ≠ ⟨g, 1, none⟩))]; exact h1
  exact ⟨k0, World.cell?_setCell_same _ _ _ k1⟩
theorem kept2 (w w3 : World) (a b : Int) (t : TypeId) (h : Below (w.alloc (.cells #[.int .u64 a, .int .u64 b] t)).heap.size (w.alloc (.cells #[.int .u64 a, .int .u64 b] t)) w3) :
    Below w.heap.size w w3 ∧ w3.cell? ⟨w.heap.size, 0, none⟩ = some (.int .u64 a) ∧ w3.cell? ⟨w.heap.size, 1, none⟩ = some (.int .u64 b) ∧ w3.frozen? ⟨w.heap.size, 0, none⟩ = false ∧ w3.frozen? ⟨w.heap.size, 1, none⟩ = false := by
  refine ⟨(by go_grown : Below w.heap.size w (w.alloc (.cells #[.int .u64 a, .int .u64 b] t))).trans (h.mono (by simp)), cell_later h (by simp), cell_later h (by simp), ?_, ?_⟩
  · rw [h.frozen (by simp)]; simp
  · rw [h.frozen (by simp)]; simp
theorem rbit_out (i : Int) (w : World) (h : i < 0 ∨ 127 < i) :
    Calls Tryz.prog 170 #[.int .i64 i] w fun e w' => e = .returned (wd 0 0) ∧ Below w.heap.size w w' := by
  unfold wd
  by_cases h1 : i < 0
  · go_enter Tryz.func170, Tryz.ntmps170
    go_wp2
    go_returns
    exact ⟨rfl, by go_grown⟩
  · have h2 : 127 < i := by omega
    go_enter Tryz.func170, Tryz.ntmps170
    go_wp2
    go_returns
    exact ⟨rfl, by go_grown⟩
theorem rbit_lo (k : Nat) (w : World) (h : k < 64) :
    Calls Tryz.prog 170 #[.int .i64 (k : Int)] w fun e w' => e = .returned (wd (bh k) (bl k)) ∧ Below w.heap.size w w' := by
  have g1 : ¬ (k : Int) < 0 := by omega
  have g2 : ¬ (127 : Int) < (k : Int) := by omega
  have g3 : (k : Int) < 64 := by omega
  have e1 : bh k = 0 := by unfold bh; rw [if_pos h]
  have e2 : IntKind.u64.wrap ((2 : Int) ^ k) = ((bl k : Nat) : Int) := by
    unfold bl; rw [if_pos h, show ((2 : Int) ^ k) = ((2 ^ k : Nat) : Int) by simp, wu64 _ (pow_lt64 k h)]
  rw [e1]
  clear e1
  unfold wd
  go_enter Tryz.func170, Tryz.ntmps170
  go_wp2
  go_returns
  exact ⟨rfl, by go_grown⟩
theorem rbit_hi (k : Nat) (w : World) (h : ¬ k < 64) (hk : k < 128) :
    Calls Tryz.prog 170 #[.int .i64 (k : Int)] w fun e w' => e = .returned (wd (bh k) (bl k)) ∧ Below w.heap.size w w' := by
  have g1 : ¬ (k : Int) < 0 := by omega
  have g2 : ¬ (127 : Int) < (k : Int) := by omega
  have g3 : ¬ (k : Int) < 64 := by omega
  have e1 : bl k = 0 := by unfold bl; rw [if_neg h]
  rw [e1]
  clear e1
  have e2 : IntKind.u64.wrap ((2 : Int) ^ (k - 64)) = ((bh k : Nat) : Int) := by
    unfold bh; rw [if_neg h, show ((2 : Int) ^ (k - 64)) = ((2 ^ (k - 64) : Nat) : Int) by simp, wu64 _ (pow_lt64 (k - 64) (by omega))]
  unfold wd
  go_enter Tryz.func170, Tryz.ntmps170
  go_wp2
  go_returns
  exact ⟨rfl, by go_grown⟩
def bhz (i : Int) : Nat := if 0 ≤ i ∧ i < 128 then bh i.toNat else 0
def blz (i : Int) : Nat := if 0 ≤ i ∧ i < 128 then bl i.toNat else 0
theorem bhz_lt (i : Int) : bhz i < 18446744073709551616 := by
  unfold bhz; split
  · exact bh_lt _ (by omega)
  · omega
theorem blz_lt (i : Int) : blz i < 18446744073709551616 := by
  unfold blz; split
  · exact bl_lt _
  · omega
theorem bhz_nat (k : Nat) (h : k < 128) : bhz (k : Int) = bh k := by unfold bhz; rw [if_pos (by omega)]; simp
theorem blz_nat (k : Nat) (h : k < 128) : blz (k : Int) = bl k := by unfold blz; rw [if_pos (by omega)]; simp
theorem rbit_any (i : Int) (w : World) : Calls Tryz.prog 170 #[.int .i64 i] w fun e w' => e = .returned (wd (bhz i) (blz i)) ∧ Below w.heap.size w w' := by
  by_cases h : 0 ≤ i ∧ i < 128
  · obtain ⟨k, rfl⟩ := Int.eq_ofNat_of_zero_le h.1
    rw [bhz_nat k (by omega), blz_nat k (by omega)]
    by_cases hk : k < 64
    · exact rbit_lo k w hk
    · exact rbit_hi k w hk (by omega)
  · rw [show bhz i = 0 by unfold bhz; rw [if_neg h], show blz i = 0 by unfold blz; rw [if_neg h]]
    exact rbit_out i w (by omega)
end
end Go.Proofs.YthhijfphfcmniaaGreat
