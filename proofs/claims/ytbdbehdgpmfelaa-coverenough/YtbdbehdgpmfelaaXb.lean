import Derived.Test.YtbdbehdgpmfelaaProg
import Derived.Test.YtbdbehdgpmfelaaXa
import Derived.Below
import Derived.BigQuiet
import Derived.BigRegion
import Derived.Deep.QuietTactic
import Derived.Deep.RegionHeld3
import Derived.Deep.RegionLaw
import Derived.Deep.RegionLawGrows
import Derived.Handy
import Derived.Laws.AppendOwn
import Derived.Laws.AppendOwnNone
import Derived.Laws.BitsAllLaws
import Derived.Laws.BitsLemmas
import Derived.Laws.CopyOwn
import Derived.Laws.OwnMore
import Derived.Laws.Rows
import Derived.Laws.StructEq
import Derived.OpenShut
import Derived.ProofKit
import Derived.RegionTactic
import Derived.WalkKit
import Derived.WalkLawsBesides
import Derived.WalkSmall
import Derived.WalkSpells
namespace Go.Proofs.Ytbdbehdgpmfelaa
section
open Go Go.RowKit
set_option linter.unusedVariables false
set_option linter.unusedSimpArgs false

theorem wu64 (n : Nat) (h : n < 18446744073709551616) : IntKind.u64.wrap (n : Int) = (n : Int) := by
  rw [IntKind.wrap_u64]; omega

theorem oc_step (X d M y : Nat) (hd : 0 < d) (hX : X < 18446744073709551616) (hM : M < 18446744073709551616) (hy : (X / d &&& M) + (X &&& M) = y) (hyb : y < 18446744073709551616) :
    IntKind.u64.wrap (bits .and .u64 ((X : Int) / (d : Nat)) (M : Nat) + bits .and .u64 (X : Int) (M : Nat)) = (y : Int) := by
  have hlt : X / d ≤ X := Nat.div_le_self _ _
  have e : ((X : Int) / (d : Nat)) = ((X / d : Nat) : Int) := by omega
  rw [e, u64_and_nat _ _ (by omega) hM, u64_and_nat _ _ hX hM, ← Int.natCast_add, hy, wu64 y hyb]

theorem dle_bound : ∀ n x, dle 16 4 n x → x < 16 ^ n → 15 * x + 4 ≤ 4 * 16 ^ n
  | 0, x, _, h => by simp at h; omega
  | n + 1, x, h, hx => by
    have hx' : x / 16 < 16 ^ n := by rw [Nat.pow_succ] at hx; exact Nat.div_lt_of_lt_mul (by rw [Nat.mul_comm]; exact hx)
    have ih := dle_bound n (x / 16) h.2 hx'
    have h1 := h.1
    rw [Nat.pow_succ]
    omega

theorem oc_rules (X : Nat) (hX : X < 18446744073709551616) : ∃ y1 y2 y3 a b c : Nat,
    IntKind.u64.wrap (bits .and .u64 ((X : Int) / 2) 6148914691236517205 + bits .and .u64 (X : Int) 6148914691236517205) = (y1 : Int) ∧
    IntKind.u64.wrap (bits .and .u64 ((y1 : Int) / 4) 3689348814741910323 + bits .and .u64 (y1 : Int) 3689348814741910323) = (y2 : Int) ∧
    bits .and .u64 (IntKind.u64.wrap ((y2 : Int) / 16 + (y2 : Int))) 1085102592571150095 = (y3 : Int) ∧
    IntKind.u64.wrap ((y3 : Int) + (y3 : Int) / 256) = (a : Int) ∧
    IntKind.u64.wrap ((a : Int) + (a : Int) / 65536) = (b : Int) ∧
    IntKind.u64.wrap ((b : Int) + (b : Int) / 4294967296) = (c : Int) ∧
    c < 9223372036854775808 ∧ c % 128 = pcr 64 X := by
  have m1 : mk 2 32 = 6148914691236517205 := by decide
  have m2 : mk 4 16 = 3689348814741910323 := by decide
  have m3 : mk 16 8 = 1085102592571150095 := by decide
  have s1 := step1 32 X
  have s2 := step2 16 (nb 2 32 X)
  obtain ⟨q1, q2, q3⟩ := nb2_sum 32 X
  obtain ⟨q4, q5, q6⟩ := nb4_sum 16 (nb 2 32 X) q2
  obtain ⟨q7, q8, q9⟩ := nb16_sum 8 (nb 4 16 (nb 2 32 X)) q5
  have s3 := step3 8 (nb 4 16 (nb 2 32 X)) q5 (Nat.lt_of_lt_of_le q6 (by decide))
  rw [m1] at s1
  rw [m2] at s2
  rw [m3] at s3
  generalize nb 2 32 X = y1 at *
  generalize nb 4 16 y1 = y2 at *
  generalize nb 16 8 y2 = y3 at *
  have b1 : y1 < 18446744073709551616 := Nat.lt_of_lt_of_le q3 (by decide)
  have b2 : y2 < 18446744073709551616 := Nat.lt_of_lt_of_le q6 (by decide)
  have b3 : y3 < 18446744073709551616 := Nat.lt_of_lt_of_le q9 (by decide)
  obtain ⟨a, ha⟩ : ∃ a, a = y3 + y3 / 256 := ⟨_, rfl⟩
  obtain ⟨b, hb⟩ : ∃ b, b = a + a / 65536 := ⟨_, rfl⟩
  obtain ⟨c, hc⟩ : ∃ c, c = b + b / 4294967296 := ⟨_, rfl⟩
  obtain ⟨f1, f2, f3, f4⟩ := fold8 y3 a b c q8 q9 ha hb hc
  refine ⟨y1, y2, y3, a, b, c, oc_step X 2 _ y1 (by decide) hX (by decide) s1 b1, oc_step y1 4 _ y2 (by decide) b1 (by decide) s2 b2, ?_, ?_, ?_, ?_, f3, ?_⟩
  · have hs : y2 / 16 + y2 < 18446744073709551616 := by
      have := dle_bound 16 y2 q5 q6
      simp only [Nat.reducePow] at this
      clear s1 s2 s3 ha hb hc f1 f2 f3 f4
      omega
    have e : ((y2 : Int) / 16 + (y2 : Int)) = ((y2 / 16 + y2 : Nat) : Int) := by omega
    rw [e, wu64 _ hs]
    have := u64_and_nat (y2 / 16 + y2) 1085102592571150095 hs (by decide)
    rw [s3] at this
    exact this
  · rw [show ((y3 : Int) + (y3 : Int) / 256) = (a : Int) by rw [ha]; simp]; exact wu64 _ f1
  · rw [show ((a : Int) + (a : Int) / 65536) = (b : Int) by rw [hb]; simp]; exact wu64 _ f2
  · rw [show ((b : Int) + (b : Int) / 4294967296) = (c : Int) by rw [hc]; simp]; exact wu64 _ (Nat.lt_trans f3 (by decide))
  · rw [f4, q7, q4, q1]

set_option maxHeartbeats 400000 in
theorem oc_any (X : Nat) (w : World) (hX : X < 18446744073709551616) :
    Calls Try.prog 42 #[.int .u64 (X : Int)] w fun e w' => e = .returned (.int .i64 (pcr 64 X : Nat)) ∧ w = w' := by
  obtain ⟨y1, y2, y3, a, b, c, r1, r2, r3, r4, r5, r6, hc, hr⟩ := oc_rules X hX
  have r7 : bits .and .i64 (c : Int) 127 = ((c % 128 : Nat) : Int) := by
    have := bits_mask .i64 63 (by decide) (fun n h0 h1 => by rw [IntKind.wrap_i64]; omega) 7 (by decide) (c : Int) (by omega) (by omega)
    simp only [Int.reducePow, Int.reduceSub] at this
    rw [this]; omega
  rw [hr] at r7
  have hx0 : (0 : Int) ≤ (X : Int) := by omega
  clear hr
  go_enter Try.func42, Try.ntmps42
  go_wp2
  go_ret
  exact ⟨ret_int rfl, rfl⟩
end

section
open Go Go.RowKit
set_option linter.unusedVariables false
set_option linter.unusedSimpArgs false

/-- a number of two halves -/
def wd (a b : Nat) : Value := .agg #[.int .u64 (a : Int), .int .u64 (b : Int)]

def andn (a c : Nat) : Nat := a &&& (18446744073709551615 - c)

theorem ret_agg {a b c d : Int} (h : a = c) (k : b = d) : Ending.returned (.agg #[.int .u64 a, .int .u64 b]) = .returned (.agg #[.int .u64 c, .int .u64 d]) := by rw [h, k]

theorem and_lt (a c : Nat) (h : a < 18446744073709551616) : a &&& c < 18446744073709551616 := Nat.lt_of_le_of_lt Nat.and_le_left h

theorem or_lt (a c : Nat) (h : a < 18446744073709551616) (k : c < 18446744073709551616) : a ||| c < 18446744073709551616 := by
  have : a ||| c < 2 ^ 64 := Nat.or_lt_two_pow h k
  exact this

theorem xor_lt (a c : Nat) (h : a < 18446744073709551616) (k : c < 18446744073709551616) : a ^^^ c < 18446744073709551616 := by
  have : a ^^^ c < 2 ^ 64 := Nat.xor_lt_two_pow h k
  exact this

set_option maxHeartbeats 400000 in
theorem and_any (a b c d : Nat) (w : World) (ha : a < 18446744073709551616) (hb : b < 18446744073709551616) (hc : c < 18446744073709551616) (hd : d < 18446744073709551616) :
    Calls Try.prog 45 #[wd a b, wd c d] w fun e w' => e = .returned (wd (a &&& c) (b &&& d)) ∧ Below w.heap.size w w' := by
  have e1 := u64_and_nat a c ha hc
  have e2 := u64_and_nat b d hb hd
  have E1 := hide_ e1
  have E2 := hide_ e2
  clear e1 e2
  unfold wd
  go_enter Try.func45, Try.ntmps45
  go_wp2
  go_returns
  exact ⟨ret_agg E1.out E2.out, by go_grown⟩

set_option maxHeartbeats 400000 in
theorem rand_any (a b c d : Nat) (w : World) (ha : a < 18446744073709551616) (hb : b < 18446744073709551616) (hc : c < 18446744073709551616) (hd : d < 18446744073709551616) :
    Calls Try.prog 62 #[wd a b, wd c d] w fun e w' => e = .returned (wd (a &&& c) (b &&& d)) ∧ Below w.heap.size w w' := by
  have e1 := u64_and_nat a c ha hc
  have e2 := u64_and_nat b d hb hd
  have E1 := hide_ e1
  have E2 := hide_ e2
  clear e1 e2
  unfold wd
  go_enter Try.func62, Try.ntmps62
  go_wp2
  go_returns
  exact ⟨ret_agg E1.out E2.out, by go_grown⟩

set_option maxHeartbeats 400000 in
theorem or_any (a b c d : Nat) (w : World) (ha : a < 18446744073709551616) (hb : b < 18446744073709551616) (hc : c < 18446744073709551616) (hd : d < 18446744073709551616) :
    Calls Try.prog 60 #[wd a b, wd c d] w fun e w' => e = .returned (wd (a ||| c) (b ||| d)) ∧ Below w.heap.size w w' := by
  have e1 := u64_or_nat a c ha hc
  have e2 := u64_or_nat b d hb hd
  have E1 := hide_ e1
  have E2 := hide_ e2
  clear e1 e2
  unfold wd
  go_enter Try.func60, Try.ntmps60
  go_wp2
  go_returns
  exact ⟨ret_agg E1.out E2.out, by go_grown⟩

set_option maxHeartbeats 400000 in
theorem ror_any (a b c d : Nat) (w : World) (ha : a < 18446744073709551616) (hb : b < 18446744073709551616) (hc : c < 18446744073709551616) (hd : d < 18446744073709551616) :
    Calls Try.prog 65 #[wd a b, wd c d] w fun e w' => e = .returned (wd (a ||| c) (b ||| d)) ∧ Below w.heap.size w w' := by
  have e1 := u64_or_nat a c ha hc
  have e2 := u64_or_nat b d hb hd
  have E1 := hide_ e1
  have E2 := hide_ e2
  clear e1 e2
  unfold wd
  go_enter Try.func65, Try.ntmps65
  go_wp2
  go_returns
  exact ⟨ret_agg E1.out E2.out, by go_grown⟩

set_option maxHeartbeats 400000 in
theorem xor_any (a b c d : Nat) (w : World) (ha : a < 18446744073709551616) (hb : b < 18446744073709551616) (hc : c < 18446744073709551616) (hd : d < 18446744073709551616) :
    Calls Try.prog 46 #[wd a b, wd c d] w fun e w' => e = .returned (wd (a ^^^ c) (b ^^^ d)) ∧ Below w.heap.size w w' := by
  have e1 := u64_xor_nat a c ha hc
  have e2 := u64_xor_nat b d hb hd
  have E1 := hide_ e1
  have E2 := hide_ e2
  clear e1 e2
  unfold wd
  go_enter Try.func46, Try.ntmps46
  go_wp2
  go_returns
  exact ⟨ret_agg E1.out E2.out, by go_grown⟩

set_option maxHeartbeats 400000 in
theorem rxor_any (a b c d : Nat) (w : World) (ha : a < 18446744073709551616) (hb : b < 18446744073709551616) (hc : c < 18446744073709551616) (hd : d < 18446744073709551616) :
    Calls Try.prog 64 #[wd a b, wd c d] w fun e w' => e = .returned (wd (a ^^^ c) (b ^^^ d)) ∧ Below w.heap.size w w' := by
  have e1 := u64_xor_nat a c ha hc
  have e2 := u64_xor_nat b d hb hd
  have E1 := hide_ e1
  have E2 := hide_ e2
  clear e1 e2
  unfold wd
  go_enter Try.func64, Try.ntmps64
  go_wp2
  go_returns
  exact ⟨ret_agg E1.out E2.out, by go_grown⟩

set_option maxHeartbeats 400000 in
theorem less_any (a b c d : Nat) (w : World) (ha : a < 18446744073709551616) (hb : b < 18446744073709551616) (hc : c < 18446744073709551616) (hd : d < 18446744073709551616) :
    Calls Try.prog 69 #[wd a b, wd c d] w fun e w' => e = .returned (wd (andn a c) (andn b d)) ∧ Below w.heap.size w w' := by
  have e1 := u64_andNot_nat a c ha hc
  have e2 := u64_andNot_nat b d hb hd
  have E1 := hide_ e1
  have E2 := hide_ e2
  clear e1 e2
  unfold wd
  go_enter Try.func69, Try.ntmps69
  go_wp2
  go_returns
  exact ⟨ret_agg E1.out E2.out, by go_grown⟩

set_option maxHeartbeats 400000 in
theorem rless_any (a b c d : Nat) (w : World) (ha : a < 18446744073709551616) (hb : b < 18446744073709551616) (hc : c < 18446744073709551616) (hd : d < 18446744073709551616) :
    Calls Try.prog 72 #[wd a b, wd c d] w fun e w' => e = .returned (wd (andn a c) (andn b d)) ∧ Below w.heap.size w w' := by
  have e1 := u64_andNot_nat a c ha hc
  have e2 := u64_andNot_nat b d hb hd
  have E1 := hide_ e1
  have E2 := hide_ e2
  clear e1 e2
  unfold wd
  go_enter Try.func72, Try.ntmps72
  go_wp2
  go_returns
  exact ⟨ret_agg E1.out E2.out, by go_grown⟩

set_option maxHeartbeats 400000 in
theorem zero_any (a b : Nat) (w : World) :
    Calls Try.prog 44 #[wd a b] w fun e w' => e = .returned (.bool (a == 0 && b == 0)) ∧ Below w.heap.size w w' := by
  unfold wd
  cases h : (a == 0)
  · have h' : (((a : Nat) : Int) == 0) = false := by simpa using h
    go_enter Try.func44, Try.ntmps44
    go_wp2
    go_ret
    exact ⟨by simp, by go_grown⟩
  · have h' : a = 0 := by simpa using h
    subst h'
    cases k : (b == 0)
    · have k' : (((b : Nat) : Int) == 0) = false := by simpa using k
      go_enter Try.func44, Try.ntmps44
      go_wp2
      go_ret
      exact ⟨by simp, by go_grown⟩
    · have k' : b = 0 := by simpa using k
      subst k'
      go_enter Try.func44, Try.ntmps44
      go_wp2
      go_ret
      exact ⟨rfl, by go_grown⟩

set_option maxHeartbeats 400000 in
theorem rzero_any (a b : Nat) (w : World) :
    Calls Try.prog 63 #[wd a b] w fun e w' => e = .returned (.bool (a == 0 && b == 0)) ∧ Below w.heap.size w w' := by
  unfold wd
  cases h : (a == 0)
  · have h' : (((a : Nat) : Int) == 0) = false := by simpa using h
    go_enter Try.func63, Try.ntmps63
    go_wp2
    go_ret
    exact ⟨by simp, by go_grown⟩
  · have h' : a = 0 := by simpa using h
    subst h'
    cases k : (b == 0)
    · have k' : (((b : Nat) : Int) == 0) = false := by simpa using k
      go_enter Try.func63, Try.ntmps63
      go_wp2
      go_ret
      exact ⟨by simp, by go_grown⟩
    · have k' : b = 0 := by simpa using k
      subst k'
      go_enter Try.func63, Try.ntmps63
      go_wp2
      go_ret
      exact ⟨rfl, by go_grown⟩

/-- how many bits there are -/
def pc (x : Nat) : Nat := if h : x = 0 then 0 else x % 2 + pc (x / 2)

theorem pcr_zero : ∀ n, pcr n 0 = 0
  | 0 => rfl
  | n + 1 => by simp [pcr, pcr_zero n]

theorem pc_pcr : ∀ n x, x < 2 ^ n → pc x = pcr n x
  | 0, x, h => by
    have : x = 0 := by simpa using h
    subst this; rw [pc]; simp [pcr]
  | n + 1, x, h => by
    by_cases hx : x = 0
    · subst hx; rw [pc, pcr_zero]; simp
    · rw [pc, dif_neg hx, pc_pcr n (x / 2) (by rw [Nat.pow_succ] at h; omega)]
      rfl

theorem pc_64 (x : Nat) (h : x < 18446744073709551616) : pcr 64 x = pc x := (pc_pcr 64 x h).symm

theorem pc_le (x : Nat) (h : x < 18446744073709551616) : pc x ≤ 64 := by rw [← pc_64 x h]; exact pcr_le 64 x

theorem oc_q (X : Nat) (w : World) (hX : X < 18446744073709551616) :
    Calls Try.prog 42 #[.int .u64 (X : Int)] w fun e w' => e = .returned (.int .i64 (pc X : Nat)) ∧ w' = w :=
  (oc_any X w hX).mono fun _ _ ⟨h1, h2⟩ => ⟨by rw [h1, pc_64 X hX], h2.symm⟩
end

section
open Go Go.RowKit
set_option linter.unusedVariables false
set_option linter.unusedSimpArgs false

/-- the t lowest bits -/
def lowb (t : Nat) : Nat := 2 ^ t - 1

/-- a number held between 0 and m -/
def cl (n : Int) (m : Nat) : Nat := (min (max n 0) (m : Int)).toNat

/-- the halves of bit i alone -/
def bh (i : Nat) : Nat := if i < 64 then 0 else 2 ^ (i - 64)

def bl (i : Nat) : Nat := if i < 64 then 2 ^ i else 0

theorem pow_lt64 (t : Nat) (h : t < 64) : 2 ^ t < 18446744073709551616 := by
  have : 2 ^ t < 2 ^ 64 := Nat.pow_lt_pow_right (by decide) h
  simpa using this

theorem lowb_lt (t : Nat) (h : t ≤ 64) : lowb t < 18446744073709551616 := by
  unfold lowb
  have h1 : 2 ^ t ≤ 2 ^ 64 := Nat.pow_le_pow_right (by decide) h
  have h2 : 0 < 2 ^ t := Nat.two_pow_pos t
  simp only [Nat.reducePow] at h1
  omega

theorem bh_lt (i : Nat) (h : i < 128) : bh i < 18446744073709551616 := by
  unfold bh; split
  · omega
  · exact pow_lt64 _ (by omega)

theorem bl_lt (i : Nat) : bl i < 18446744073709551616 := by
  unfold bl; split
  · exact pow_lt64 _ (by omega)
  · omega

theorem ones_val (t : Nat) (h : t ≤ 64) : IntKind.u64.wrap (IntKind.u64.wrap ((2 : Int) ^ t) - 1) = ((lowb t : Nat) : Int) := by
  unfold lowb
  rcases Nat.lt_or_ge t 64 with h' | h'
  · have h1 := pow_lt64 t h'
    have h2 : 0 < 2 ^ t := Nat.two_pow_pos t
    have e : ((2 : Int) ^ t) = ((2 ^ t : Nat) : Int) := by simp
    rw [e, wu64 _ h1, IntKind.wrap_u64]
    omega
  · have : t = 64 := by omega
    subst this
    decide

theorem testBit_lowb (t i : Nat) : (lowb t).testBit i = decide (i < t) := Nat.testBit_two_pow_sub_one t i

theorem testBit_all (i : Nat) : (18446744073709551615 : Nat).testBit i = decide (i < 64) := Nat.testBit_two_pow_sub_one 64 i

theorem sub_is_xor (c : Nat) (h : c < 18446744073709551616) : 18446744073709551615 - c = 18446744073709551615 ^^^ c := by
  have h1 : c < 2 ^ 64 := h
  have := BitVec.toNat_not (x := BitVec.ofNat 64 c)
  have e : (~~~(BitVec.ofNat 64 c)) = (BitVec.allOnes 64) ^^^ (BitVec.ofNat 64 c) := BitVec.not_def
  rw [e, BitVec.toNat_xor, BitVec.toNat_allOnes, BitVec.toNat_ofNat, Nat.mod_eq_of_lt h1] at this
  simpa using this.symm

theorem testBit_andn (a c i : Nat) (hc : c < 18446744073709551616) : (andn a c).testBit i = (a.testBit i && (decide (i < 64) ^^ c.testBit i)) := by
  unfold andn
  rw [sub_is_xor c hc, Nat.testBit_and, Nat.testBit_xor, testBit_all]

theorem andn_low (t : Nat) (h : t < 64) : andn (lowb (t + 1)) (lowb t) = 2 ^ t := by
  apply Nat.eq_of_testBit_eq
  intro i
  rw [testBit_andn _ _ _ (lowb_lt t (by omega)), testBit_lowb, testBit_lowb, Nat.testBit_two_pow]
  rw [Bool.eq_iff_iff]
  simp
  omega

theorem andn_self (a : Nat) (h : a < 18446744073709551616) : andn a a = 0 := by
  apply Nat.eq_of_testBit_eq
  intro i
  rw [testBit_andn _ _ _ h, Nat.zero_testBit]
  cases e : a.testBit i
  · rfl
  · have : i < 64 := by
      rcases Nat.lt_or_ge i 64 with h' | h'
      · exact h'
      · have := Nat.testBit_lt_two_pow (x := a) (i := i) (Nat.lt_of_lt_of_le h (by have := Nat.pow_le_pow_right (n := 2) (by decide) h'; simpa using this))
        rw [this] at e; cases e
    simp [this]

theorem bit_hi (i : Nat) (h : i < 128) : andn (lowb (i + 1 - 64)) (lowb (i - 64)) = bh i := by
  unfold bh
  split
  · rw [show i + 1 - 64 = 0 by omega, show i - 64 = 0 by omega]; decide
  · rw [show i + 1 - 64 = (i - 64) + 1 by omega]; exact andn_low _ (by omega)

theorem bit_lo (i : Nat) (h : i < 128) : andn (lowb (min (i + 1) 64)) (lowb (min i 64)) = bl i := by
  unfold bl
  split
  · rw [show min (i + 1) 64 = i + 1 by omega, show min i 64 = i by omega]; exact andn_low _ (by omega)
  · rw [show min (i + 1) 64 = 64 by omega, show min i 64 = 64 by omega]; exact andn_self _ (lowb_lt 64 (by omega))

/-- bit i is there -/
def hasb (a b i : Nat) : Bool := if i < 64 then b.testBit i else a.testBit (i - 64)

theorem and_pow_zero (x t : Nat) : (x &&& 2 ^ t == 0) = !x.testBit t := by
  rw [nat_bit]
  rw [Nat.testBit_eq_decide_div_mod_eq]
  have h2 : 0 < 2 ^ t := Nat.two_pow_pos t
  rcases Nat.mod_two_eq_zero_or_one (x / 2 ^ t) with h | h
  · rw [h]; simp
  · rw [h]; simp

theorem has_val (a b i : Nat) : (!((a &&& bh i) == 0 && (b &&& bl i) == 0)) = hasb a b i := by
  unfold bh bl hasb
  split
  · rw [and_pow_zero]; simp
  · rw [and_pow_zero]; simp

/-- how many of the k lowest bits there are -/
def cnt (a b : Nat) : Nat → Nat
  | 0 => 0
  | k + 1 => cnt a b k + (if hasb a b k then 1 else 0)

theorem cnt_le (a b : Nat) : ∀ k, cnt a b k ≤ k
  | 0 => Nat.le_refl _
  | k + 1 => by have := cnt_le a b k; simp only [cnt]; split <;> omega

theorem pcr_snoc : ∀ k x, pcr (k + 1) x = pcr k x + x / 2 ^ k % 2
  | 0, x => by simp [pcr]
  | k + 1, x => by
    have := pcr_snoc k (x / 2)
    show x % 2 + pcr (k + 1) (x / 2) = x % 2 + pcr k (x / 2) + x / 2 ^ (k + 1) % 2
    rw [this, Nat.div_div_eq_div_mul, Nat.pow_succ, Nat.mul_comm (2 ^ k) 2]
    omega

theorem tb (x k : Nat) : (if x.testBit k then 1 else 0) = x / 2 ^ k % 2 := by
  rw [Nat.testBit_eq_decide_div_mod_eq]
  rcases Nat.mod_two_eq_zero_or_one (x / 2 ^ k) with h | h <;> rw [h] <;> simp

theorem hasb_lo (a b k : Nat) (h : k < 64) : hasb a b k = b.testBit k := by unfold hasb; rw [if_pos h]

theorem hasb_hi (a b k : Nat) (h : ¬ k < 64) : hasb a b k = a.testBit (k - 64) := by unfold hasb; rw [if_neg h]

theorem cnt_succ (a b k : Nat) : cnt a b (k + 1) = cnt a b k + (if hasb a b k then 1 else 0) := rfl

theorem cnt_lo (a b : Nat) : ∀ k, k ≤ 64 → cnt a b k = pcr k b
  | 0, _ => rfl
  | k + 1, h => by
    rw [pcr_snoc, ← tb, cnt_succ, hasb_lo a b k (by omega), cnt_lo a b k (by omega)]

theorem cnt_hi (a b m : Nat) (hm : m = 64) : ∀ k, cnt a b (m + k) = pcr m b + pcr k a
  | 0 => by rw [Nat.add_zero, cnt_lo a b m (by omega)]; rfl
  | k + 1 => by
    rw [pcr_snoc, ← tb, ← Nat.add_assoc, cnt_succ, cnt_hi a b m hm k, hasb_hi a b (m + k) (by omega), show m + k - 64 = k by omega]
    omega

theorem cnt_all (a b : Nat) (ha : a < 18446744073709551616) (hb : b < 18446744073709551616) : cnt a b 128 = pc a + pc b := by
  have := cnt_hi a b 64 rfl 64
  rw [pc_64 a ha, pc_64 b hb] at this
  rw [Nat.add_comm (pc a)]
  exact this

theorem pcr_or_and : ∀ n a b, pcr n a + pcr n b = pcr n (a ||| b) + pcr n (a &&& b)
  | 0, _, _ => rfl
  | n + 1, a, b => by
    have ih := pcr_or_and n (a / 2) (b / 2)
    simp only [pcr]
    rw [Nat.or_div_two, Nat.and_div_two]
    have h1 : a % 2 + b % 2 = (a ||| b) % 2 + (a &&& b) % 2 := by
      have e1 := Nat.testBit_or a b 0
      have e2 := Nat.testBit_and a b 0
      simp only [Nat.testBit_zero] at e1 e2
      rcases Nat.mod_two_eq_zero_or_one a with h | h <;> rcases Nat.mod_two_eq_zero_or_one b with k | k <;> rcases Nat.mod_two_eq_zero_or_one (a ||| b) with o | o <;> rcases Nat.mod_two_eq_zero_or_one (a &&& b) with n1 | n1 <;> rw [h, k, o] at e1 <;> rw [h, k, n1] at e2 <;> first | omega | (exfalso; revert e1; decide) | (exfalso; revert e2; decide)
    omega

theorem pc_or_and (a b : Nat) (ha : a < 18446744073709551616) (hb : b < 18446744073709551616) : pc a + pc b = pc (a ||| b) + pc (a &&& b) := by
  rw [← pc_64 a ha, ← pc_64 b hb, ← pc_64 _ (or_lt a b ha hb), ← pc_64 _ (and_lt a b ha)]
  exact pcr_or_and 64 a b

theorem less_and (a b : Nat) (ha : a < 18446744073709551616) (hb : b < 18446744073709551616) : andn a b ||| (a &&& b) = a := by
  apply Nat.eq_of_testBit_eq
  intro i
  rw [Nat.testBit_or, testBit_andn _ _ _ hb, Nat.testBit_and]
  cases e : a.testBit i
  · simp
  · have : i < 64 := by
      rcases Nat.lt_or_ge i 64 with h' | h'
      · exact h'
      · have := Nat.testBit_lt_two_pow (x := a) (i := i) (Nat.lt_of_lt_of_le ha (by have := Nat.pow_le_pow_right (n := 2) (by decide) h'; simpa using this))
        rw [this] at e; cases e
    cases b.testBit i <;> simp [this]
end

section
open Go Go.RowKit
set_option linter.unusedVariables false
set_option linter.unusedSimpArgs false

set_option maxHeartbeats 400000 in
theorem hold_any (n : Int) (m : Nat) (w : World) :
    Calls Try.prog 76 #[.int .i64 n, .int .i64 (m : Int)] w fun e w' => e = .returned (.int .i64 (cl n m : Nat)) ∧ w = w' := by
  have e : ((cl n m : Nat) : Int) = min (max n 0) (m : Int) := by unfold cl; omega
  rw [e]
  clear e
  by_cases h1 : n < 0
  · have h2 : ¬ (m : Int) < 0 := by omega
    go_enter Try.func76, Try.ntmps76
    go_wp2
    all_goals (go_ret; exact ⟨ret_int (by omega), rfl⟩)
  · by_cases h2 : (m : Int) < n
    · go_enter Try.func76, Try.ntmps76
      go_wp2
      all_goals (go_ret; exact ⟨ret_int (by omega), rfl⟩)
    · go_enter Try.func76, Try.ntmps76
      go_wp2
      all_goals (go_ret; exact ⟨ret_int (by omega), rfl⟩)

theorem hold_64 (n : Int) (w : World) :
    Calls Try.prog 76 #[.int .i64 n, .int .i64 64] w fun e w' => e = .returned (.int .i64 (cl n 64 : Nat)) ∧ w = w' := hold_any n 64 w

theorem hold_128 (n : Int) (w : World) :
    Calls Try.prog 76 #[.int .i64 n, .int .i64 128] w fun e w' => e = .returned (.int .i64 (cl n 128 : Nat)) ∧ w = w' := hold_any n 128 w

theorem cl_le (n : Int) (m : Nat) : cl n m ≤ m := by unfold cl; omega

set_option maxHeartbeats 400000 in
theorem ones_any (n : Int) (w : World) :
    Calls Try.prog 77 #[.int .i64 n] w fun e w' => e = .returned (.int .u64 (lowb (cl n 64) : Nat)) ∧ w = w' := by
  have h := cl_le n 64
  generalize ht : cl n 64 = t at *
  have HT := hide_ ht
  clear ht
  have HV := hide_ (ones_val t h)
  go_enter Try.func77, Try.ntmps77
  go_wp2_with (go_at_call 76; refine (hold_64 _ _).mono ?_; rintro e w' ⟨rfl, rfl⟩; rw [HT.out])
  go_ret
  exact ⟨ret_int HV.out, rfl⟩

theorem cl_cl (n : Int) : cl ((cl n 128 : Nat) : Int) 64 = min (cl n 128) 64 := by
  have := cl_le n 128
  generalize cl n 128 = k at *
  unfold cl; omega

theorem cl_sub (n : Int) : cl (((cl n 128 : Nat) : Int) - 64) 64 = cl n 128 - 64 := by
  have := cl_le n 128
  generalize cl n 128 = k at *
  unfold cl; omega

set_option maxHeartbeats 400000 in
theorem low_any (n : Int) (w : World) :
    Calls Try.prog 75 #[.int .i64 n] w fun e w' => e = .returned (wd (lowb (cl n 128 - 64)) (lowb (min (cl n 128) 64))) ∧ Below w.heap.size w w' := by
  rw [← cl_cl, ← cl_sub]
  have h := cl_le n 128
  generalize ht : cl n 128 = t at *
  have HT := hide_ ht
  clear ht
  unfold wd
  go_enter Try.func75, Try.ntmps75
  go_wp2_with (first | (go_at_call 76; refine (hold_128 _ _).mono ?_; rintro e w' ⟨rfl, rfl⟩; rw [HT.out]) | (go_at_call 77; refine (ones_any _ _).mono ?_; rintro e w' ⟨rfl, rfl⟩))
  go_returns
  exact ⟨rfl, by go_grown⟩
end

section
open Go Go.RowKit
set_option linter.unusedVariables false
set_option linter.unusedSimpArgs false

theorem low_nat (k : Nat) (w : World) (h : k ≤ 128) :
    Calls Try.prog 75 #[.int .i64 (k : Int)] w fun e w' => e = .returned (wd (lowb (k - 64)) (lowb (min k 64))) ∧ Below w.heap.size w w' := by
  have := low_any (k : Int) w
  rwa [show cl (k : Int) 128 = k by unfold cl; omega] at this

theorem low_nat1 (k : Nat) (w : World) (h : k < 128) :
    Calls Try.prog 75 #[.int .i64 ((k : Int) + 1)] w fun e w' => e = .returned (wd (lowb (k + 1 - 64)) (lowb (min (k + 1) 64))) ∧ Below w.heap.size w w' := by
  have := low_any ((k : Int) + 1) w
  rwa [show cl ((k : Int) + 1) 128 = k + 1 by unfold cl; omega] at this

theorem set2 {w : World} {g : Nat} {x y u v : Value} (h0 : w.cell? ⟨g, 0, none⟩ = some x) (h1 : w.cell? ⟨g, 1, none⟩ = some y) :
    (w.setCell ⟨g, 0, none⟩ u).cell? ⟨g, 0, none⟩ = some u ∧ ((w.setCell ⟨g, 0, none⟩ u).setCell ⟨g, 1, none⟩ v).cell? ⟨g, 1, none⟩ = some v := by
  have k0 := World.cell?_setCell_same w ⟨g, 0, none⟩ u h0
  have k1 : (w.setCell ⟨g, 0, none⟩ u).cell? ⟨g, 1, none⟩ = some y := by rw [World.cell?_setCell_other (h := (by simp : (⟨g, 0, none⟩ : Addr) ≠ ⟨g, 1, none⟩))]; exact h1
  exact ⟨k0, World.cell?_setCell_same _ _ _ k1⟩

theorem kept2 (w w3 : World) (a b : Int) (t : TypeId) (h : Below (w.alloc (.cells #[.int .u64 a, .int .u64 b] t)).heap.size (w.alloc (.cells #[.int .u64 a, .int .u64 b] t)) w3) :
    Below w.heap.size w w3 ∧ w3.cell? ⟨w.heap.size, 0, none⟩ = some (.int .u64 a) ∧ w3.cell? ⟨w.heap.size, 1, none⟩ = some (.int .u64 b) ∧ w3.frozen? ⟨w.heap.size, 0, none⟩ = false ∧ w3.frozen? ⟨w.heap.size, 1, none⟩ = false := by
  refine ⟨(by go_grown : Below w.heap.size w (w.alloc (.cells #[.int .u64 a, .int .u64 b] t))).trans (h.mono (by simp)), cell_later h (by simp), cell_later h (by simp), ?_, ?_⟩
  · rw [h.frozen (by simp)]; simp
  · rw [h.frozen (by simp)]; simp

set_option maxHeartbeats 400000 in
theorem bit_out (i : Int) (w : World) (h : i < 0 ∨ 128 ≤ i) :
    Calls Try.prog 71 #[.int .i64 i] w fun e w' => e = .returned (wd 0 0) ∧ Below w.heap.size w w' := by
  unfold wd
  by_cases h1 : i < 0
  · go_enter Try.func71, Try.ntmps71
    go_wp2
    go_returns
    exact ⟨rfl, by go_grown⟩
  · have h2 : 128 ≤ i := by omega
    go_enter Try.func71, Try.ntmps71
    go_wp2
    go_returns
    exact ⟨rfl, by go_grown⟩

set_option maxHeartbeats 400000 in
theorem bit_in (k : Nat) (w : World) (h : k < 128) :
    Calls Try.prog 71 #[.int .i64 (k : Int)] w fun e w' => e = .returned (wd (bh k) (bl k)) ∧ Below w.heap.size w w' := by
  rw [← bit_hi k h, ← bit_lo k h]
  have q1 := lowb_lt (k + 1 - 64) (by omega)
  have q2 := lowb_lt (min (k + 1) 64) (by omega)
  have q3 := lowb_lt (k - 64) (by omega)
  have q4 := lowb_lt (min k 64) (by omega)
  have HA := fun w => low_nat1 k w h
  have HC := fun w => low_nat k w (by omega)
  generalize lowb (k + 1 - 64) = a1 at *
  generalize lowb (min (k + 1) 64) = a2 at *
  generalize lowb (k - 64) = a3 at *
  generalize lowb (min k 64) = a4 at *
  have HL := fun w => less_any a1 a2 a3 a4 w q1 q2 q3 q4
  unfold wd at *
  have HA' := hide_ HA
  have HC' := hide_ HC
  have HL' := hide_ HL
  clear HA HC HL
  have g1 : ¬ (k : Int) < 0 := by omega
  have g2 : ¬ (128 : Int) ≤ (k : Int) := by omega
  go_enter Try.func71, Try.ntmps71
  go_wp2_with fail
  refine (HA'.out _).mono ?_
  rintro e w1 ⟨rfl, b1⟩
  go_wp2_with fail
  refine (HC'.out _).mono ?_
  rintro e w2 ⟨rfl, b2⟩
  go_wp2_with fail
  refine (HL'.out _).mono ?_
  rintro e w3 ⟨rfl, b3⟩
  have B3 := kept2 w w3 0 0 24 (b1.trans ((b2.mono b1.size).trans (b3.mono (Nat.le_trans b1.size b2.size))))
  obtain ⟨bel, c0, c1, f0, f1⟩ := B3
  obtain ⟨s0, s1⟩ := set2 (u := .int .u64 (andn a1 a3 : Nat)) (v := .int .u64 (andn a2 a4 : Nat)) c0 c1
  clear b1 b2 b3
  go_wp2
  exact bodyPost_ret (v := .agg #[.int .u64 (andn a1 a3 : Nat), .int .u64 (andn a2 a4 : Nat)]) (by simp [results, Try.results71, go_sem, s0, s1]) rfl ⟨rfl, (bel.setCell (Nat.le_refl _) _).setCell (Nat.le_refl _) _⟩

set_option maxHeartbeats 400000 in
theorem rbit_out (i : Int) (w : World) (h : i < 0 ∨ 127 < i) :
    Calls Try.prog 73 #[.int .i64 i] w fun e w' => e = .returned (wd 0 0) ∧ Below w.heap.size w w' := by
  unfold wd
  by_cases h1 : i < 0
  · go_enter Try.func73, Try.ntmps73
    go_wp2
    go_returns
    exact ⟨rfl, by go_grown⟩
  · have h2 : 127 < i := by omega
    go_enter Try.func73, Try.ntmps73
    go_wp2
    go_returns
    exact ⟨rfl, by go_grown⟩

set_option maxHeartbeats 400000 in
theorem rbit_lo (k : Nat) (w : World) (h : k < 64) :
    Calls Try.prog 73 #[.int .i64 (k : Int)] w fun e w' => e = .returned (wd (bh k) (bl k)) ∧ Below w.heap.size w w' := by
  have g1 : ¬ (k : Int) < 0 := by omega
  have g2 : ¬ (127 : Int) < (k : Int) := by omega
  have g3 : (k : Int) < 64 := by omega
  have e1 : bh k = 0 := by unfold bh; rw [if_pos h]
  have e2 : IntKind.u64.wrap ((2 : Int) ^ k) = ((bl k : Nat) : Int) := by
    unfold bl; rw [if_pos h, show ((2 : Int) ^ k) = ((2 ^ k : Nat) : Int) by simp, wu64 _ (pow_lt64 k h)]
  rw [e1]
  clear e1
  unfold wd
  go_enter Try.func73, Try.ntmps73
  go_wp2
  go_returns
  exact ⟨rfl, by go_grown⟩

set_option maxHeartbeats 400000 in
theorem rbit_hi (k : Nat) (w : World) (h : ¬ k < 64) (hk : k < 128) :
    Calls Try.prog 73 #[.int .i64 (k : Int)] w fun e w' => e = .returned (wd (bh k) (bl k)) ∧ Below w.heap.size w w' := by
  have g1 : ¬ (k : Int) < 0 := by omega
  have g2 : ¬ (127 : Int) < (k : Int) := by omega
  have g3 : ¬ (k : Int) < 64 := by omega
  have e1 : bl k = 0 := by unfold bl; rw [if_neg h]
  rw [e1]
  clear e1
  have e2 : IntKind.u64.wrap ((2 : Int) ^ (k - 64)) = ((bh k : Nat) : Int) := by
    unfold bh; rw [if_neg h, show ((2 : Int) ^ (k - 64)) = ((2 ^ (k - 64) : Nat) : Int) by simp, wu64 _ (pow_lt64 (k - 64) (by omega))]
  unfold wd
  go_enter Try.func73, Try.ntmps73
  go_wp2
  go_returns
  exact ⟨rfl, by go_grown⟩

/-- the halves of bit i alone, where there is one -/
def bhz (i : Int) : Nat := if 0 ≤ i ∧ i < 128 then bh i.toNat else 0

def blz (i : Int) : Nat := if 0 ≤ i ∧ i < 128 then bl i.toNat else 0

theorem bhz_lt (i : Int) : bhz i < 18446744073709551616 := by
  unfold bhz; split
  · exact bh_lt _ (by omega)
  · omega

theorem blz_lt (i : Int) : blz i < 18446744073709551616 := by
  unfold blz; split
  · exact bl_lt _
  · omega

theorem bhz_nat (k : Nat) (h : k < 128) : bhz (k : Int) = bh k := by unfold bhz; rw [if_pos (by omega)]; simp

theorem blz_nat (k : Nat) (h : k < 128) : blz (k : Int) = bl k := by unfold blz; rw [if_pos (by omega)]; simp

theorem bit_any (i : Int) (w : World) : Calls Try.prog 71 #[.int .i64 i] w fun e w' => e = .returned (wd (bhz i) (blz i)) ∧ Below w.heap.size w w' := by
  by_cases h : 0 ≤ i ∧ i < 128
  · obtain ⟨k, rfl⟩ := Int.eq_ofNat_of_zero_le h.1
    rw [bhz_nat k (by omega), blz_nat k (by omega)]
    exact bit_in k w (by omega)
  · rw [show bhz i = 0 by unfold bhz; rw [if_neg h], show blz i = 0 by unfold blz; rw [if_neg h]]
    exact bit_out i w (by omega)

theorem rbit_any (i : Int) (w : World) : Calls Try.prog 73 #[.int .i64 i] w fun e w' => e = .returned (wd (bhz i) (blz i)) ∧ Below w.heap.size w w' := by
  by_cases h : 0 ≤ i ∧ i < 128
  · obtain ⟨k, rfl⟩ := Int.eq_ofNat_of_zero_le h.1
    rw [bhz_nat k (by omega), blz_nat k (by omega)]
    by_cases hk : k < 64
    · exact rbit_lo k w hk
    · exact rbit_hi k w hk (by omega)
  · rw [show bhz i = 0 by unfold bhz; rw [if_neg h], show blz i = 0 by unfold blz; rw [if_neg h]]
    exact rbit_out i w (by omega)
end

section
open Go Go.RowKit
set_option linter.unusedVariables false
set_option linter.unusedSimpArgs false

/-- bit i is there -/
def hasz (a b : Nat) (i : Int) : Bool := !((a &&& bhz i) == 0 && (b &&& blz i) == 0)

theorem keep1 {base g : Nat} {w0 wa wb : World} {x y : Value} (h : wa.cell? ⟨g, 0, none⟩ = some x ∧ wa.cell? ⟨g, 1, none⟩ = some y ∧ Below base w0 wa) (hw : base ≤ w0.heap.size) (k : Below wa.heap.size wa wb) :
    wb.cell? ⟨g, 0, none⟩ = some x ∧ wb.cell? ⟨g, 1, none⟩ = some y ∧ Below base w0 wb :=
  ⟨cell_later k h.1, cell_later k h.2.1, h.2.2.trans (k.mono (Nat.le_trans hw h.2.2.size))⟩

theorem ret_bool {a b : Bool} (h : a = b) : Ending.returned (.bool a) = .returned (.bool b) := by rw [h]

set_option maxHeartbeats 1000000 in
theorem rhas_any (a b : Nat) (i : Int) (w : World) (ha : a < 18446744073709551616) (hb : b < 18446744073709551616) :
    Calls Try.prog 58 #[wd a b, .int .i64 i] w fun e w' => e = .returned (.bool (hasz a b i)) ∧ Below w.heap.size w w' := by
  unfold hasz
  have q1 := bhz_lt i
  have q2 := blz_lt i
  have HA := fun w => rbit_any i w
  generalize bhz i = x at *
  generalize blz i = y at *
  have HC := fun w => rand_any a b x y w ha hb q1 q2
  generalize a &&& x = u at *
  generalize b &&& y = v at *
  have HD := fun w => rzero_any u v w
  unfold wd at *
  have HA' := hide_ HA
  have HC' := hide_ HC
  have HD' := hide_ HD
  clear HA HC HD
  go_enter Try.func58, Try.ntmps58
  go_wp2_with fail
  go_region_held3 (fun w' => w'.cell? ⟨w.heap.size, 0, none⟩ = some (.int .u64 (a : Int)) ∧ w'.cell? ⟨w.heap.size, 1, none⟩ = some (.int .u64 (b : Int)) ∧ Below w.heap.size w w')
    (first | (exact keep1 (by assumption) (Nat.le_refl _) (by assumption)) | (exact ⟨by simp, by simp, by go_grown⟩))
    (first | (go_at_call 73; refine (HA'.out _).mono ?_; rintro e w' ⟨rfl, hb⟩) | (go_at_call 62; refine (HC'.out _).mono ?_; rintro e w' ⟨rfl, hb⟩) | (go_at_call 63; refine (HD'.out _).mono ?_; rintro e w' ⟨rfl, hb⟩))
  rename_i hH
  have bel := hH.2.2
  clear hH
  go_wp2
  go_ret
  exact ⟨ret_bool (by simp), bel⟩

theorem hasz_nat (a b k : Nat) (h : k < 128) : hasz a b (k : Int) = hasb a b k := by
  unfold hasz
  rw [bhz_nat k h, blz_nat k h, has_val]

set_option maxRecDepth 100000 in
set_option maxHeartbeats 1000000 in
theorem rmany_any (a b : Nat) (w : World) (ha : a < 18446744073709551616) (hb : b < 18446744073709551616) :
    Calls Try.prog 43 #[wd a b] w fun e w' => e = .returned (.int .i64 ((pc a + pc b : Nat) : Int)) ∧ Below w.heap.size w w' := by
  have HK := hide_ (cnt_all a b ha hb)
  have HS : Hid (∀ k : Nat, k < 128 → cnt a b (k + 1) = cnt a b k + (if hasz a b (k : Int) then 1 else 0)) := fun k hk => by rw [hasz_nat a b k hk]; rfl
  have HL : Hid (∀ k, cnt a b k ≤ k) := cnt_le a b
  generalize cnt a b = C at *
  have C0 : Hid (C 0 = 0) := by have := HL.out 0; exact Nat.le_zero.1 this
  have HH := hide_ (fun (i : Int) w => rhas_any a b i w ha hb)
  generalize hasz a b = Z at *
  unfold wd at *
  go_enter Try.func43, Try.ntmps43
  go_wp2
  go_loopw [3, 4] (fun n i wr => ∃ k : Nat, k ≤ 128 ∧ i = .int .i64 k ∧ n = .int .i64 (C k : Nat) ∧ wr.cell? ⟨w.heap.size, 0, none⟩ = some (.int .u64 (a : Int)) ∧ wr.cell? ⟨w.heap.size, 1, none⟩ = some (.int .u64 (b : Int)) ∧ Below w.heap.size w wr) (fun _ i _ => 128 - (intOf i).toNat)
  case atStart => exact ⟨0, by omega, rfl, by rw [C0.out]; rfl, by simp, by simp, by go_grown⟩
  case round =>
    obtain ⟨k, hk, rfl, rfl, c0, c1, bel⟩ := hrel
    have hC := HL.out k
    by_cases hlt : k < 128
    · have hs := HS.out k hlt
      have HSS := hide_ hs
      clear hs
      cases hz : Z (k : Int)
      · rw [hz] at HSS
        go_wp2_with (go_at_call 58; refine (HH.out _ _).mono ?_; rintro e w1 ⟨rfl, b1⟩)
        go_roundw
        case rel => exact ⟨k + 1, by omega, by go_num, by rw [HSS.out]; rfl, cell_later b1 c0, cell_later b1 c1, bel.trans (b1.mono bel.size)⟩
        case measure => simp [intOf]; omega
      · rw [hz] at HSS
        go_wp2_with (go_at_call 58; refine (HH.out _ _).mono ?_; rintro e w1 ⟨rfl, b1⟩)
        go_roundw
        case rel => exact ⟨k + 1, by omega, by go_num, by rw [HSS.out]; simp, cell_later b1 c0, cell_later b1 c1, bel.trans (b1.mono bel.size)⟩
        case measure => simp [intOf]; omega
    · have he : k = 128 := by omega
      subst he
      go_wp2
      go_ret
      exact ⟨ret_int (by rw [HK.out]), bel⟩
end

end Go.Proofs.Ytbdbehdgpmfelaa
