import Derived.Test.YtickphnfgaibiabProg
import Derived.Test.YtickphnfgaibiabK
import Derived.Test.YtickphnfgaibiabP
import Derived.Test.YtickphnfgaibiabQ
import Derived.Below
import Derived.BigQuiet
import Derived.BigRegion
import Derived.Deep.QuietTactic
import Derived.Deep.RegionHeld3
import Derived.Deep.RegionLaw
import Derived.Deep.RegionLawGrows
import Derived.Handy
import Derived.Laws.AppendOwn
import Derived.Laws.AppendOwnNone
import Derived.Laws.BitsAllLaws
import Derived.Laws.BitsLemmas
import Derived.Laws.CopyOwn
import Derived.Laws.OwnMore
import Derived.Laws.Rows
import Derived.Laws.StructEq
import Derived.OpenShut
import Derived.ProofKit
import Derived.RegionTactic
import Derived.WalkKit
import Derived.WalkLawsBesides
import Derived.WalkSmall
import Derived.WalkSpells
namespace Go.Proofs.Ytickphnfgaibiab
open Go Go.RowKit
set_option linter.unusedVariables false
set_option linter.unusedSimpArgs false

/-- a number of two halves -/
def wd (a b : Nat) : Value := .agg #[.int .u64 (a : Int), .int .u64 (b : Int)]

def andn (a c : Nat) : Nat := a &&& (18446744073709551615 - c)

theorem ret_agg {a b c d : Int} (h : a = c) (k : b = d) : Ending.returned (.agg #[.int .u64 a, .int .u64 b]) = .returned (.agg #[.int .u64 c, .int .u64 d]) := by rw [h, k]

theorem and_lt (a c : Nat) (h : a < 18446744073709551616) : a &&& c < 18446744073709551616 := Nat.lt_of_le_of_lt Nat.and_le_left h

theorem or_lt (a c : Nat) (h : a < 18446744073709551616) (k : c < 18446744073709551616) : a ||| c < 18446744073709551616 := by
  have : a ||| c < 2 ^ 64 := Nat.or_lt_two_pow h k
  exact this

theorem xor_lt (a c : Nat) (h : a < 18446744073709551616) (k : c < 18446744073709551616) : a ^^^ c < 18446744073709551616 := by
  have : a ^^^ c < 2 ^ 64 := Nat.xor_lt_two_pow h k
  exact this

set_option maxHeartbeats 400000 in
theorem and_any (a b c d : Nat) (w : World) (ha : a < 18446744073709551616) (hb : b < 18446744073709551616) (hc : c < 18446744073709551616) (hd : d < 18446744073709551616) :
    Calls Try.prog 63 #[wd a b, wd c d] w fun e w' => e = .returned (wd (a &&& c) (b &&& d)) ∧ Below w.heap.size w w' := by
  have e1 := u64_and_nat a c ha hc
  have e2 := u64_and_nat b d hb hd
  have E1 := hide_ e1
  have E2 := hide_ e2
  clear e1 e2
  unfold wd
  go_enter Try.func63, Try.ntmps63
  go_wp2
  go_returns
  exact ⟨ret_agg E1.out E2.out, by go_grown⟩

set_option maxHeartbeats 400000 in
theorem rand_any (a b c d : Nat) (w : World) (ha : a < 18446744073709551616) (hb : b < 18446744073709551616) (hc : c < 18446744073709551616) (hd : d < 18446744073709551616) :
    Calls Try.prog 74 #[wd a b, wd c d] w fun e w' => e = .returned (wd (a &&& c) (b &&& d)) ∧ Below w.heap.size w w' := by
  have e1 := u64_and_nat a c ha hc
  have e2 := u64_and_nat b d hb hd
  have E1 := hide_ e1
  have E2 := hide_ e2
  clear e1 e2
  unfold wd
  go_enter Try.func74, Try.ntmps74
  go_wp2
  go_returns
  exact ⟨ret_agg E1.out E2.out, by go_grown⟩

set_option maxHeartbeats 400000 in
theorem or_any (a b c d : Nat) (w : World) (ha : a < 18446744073709551616) (hb : b < 18446744073709551616) (hc : c < 18446744073709551616) (hd : d < 18446744073709551616) :
    Calls Try.prog 52 #[wd a b, wd c d] w fun e w' => e = .returned (wd (a ||| c) (b ||| d)) ∧ Below w.heap.size w w' := by
  have e1 := u64_or_nat a c ha hc
  have e2 := u64_or_nat b d hb hd
  have E1 := hide_ e1
  have E2 := hide_ e2
  clear e1 e2
  unfold wd
  go_enter Try.func52, Try.ntmps52
  go_wp2
  go_returns
  exact ⟨ret_agg E1.out E2.out, by go_grown⟩

set_option maxHeartbeats 400000 in
theorem ror_any (a b c d : Nat) (w : World) (ha : a < 18446744073709551616) (hb : b < 18446744073709551616) (hc : c < 18446744073709551616) (hd : d < 18446744073709551616) :
    Calls Try.prog 77 #[wd a b, wd c d] w fun e w' => e = .returned (wd (a ||| c) (b ||| d)) ∧ Below w.heap.size w w' := by
  have e1 := u64_or_nat a c ha hc
  have e2 := u64_or_nat b d hb hd
  have E1 := hide_ e1
  have E2 := hide_ e2
  clear e1 e2
  unfold wd
  go_enter Try.func77, Try.ntmps77
  go_wp2
  go_returns
  exact ⟨ret_agg E1.out E2.out, by go_grown⟩

set_option maxHeartbeats 400000 in
theorem xor_any (a b c d : Nat) (w : World) (ha : a < 18446744073709551616) (hb : b < 18446744073709551616) (hc : c < 18446744073709551616) (hd : d < 18446744073709551616) :
    Calls Try.prog 64 #[wd a b, wd c d] w fun e w' => e = .returned (wd (a ^^^ c) (b ^^^ d)) ∧ Below w.heap.size w w' := by
  have e1 := u64_xor_nat a c ha hc
  have e2 := u64_xor_nat b d hb hd
  have E1 := hide_ e1
  have E2 := hide_ e2
  clear e1 e2
  unfold wd
  go_enter Try.func64, Try.ntmps64
  go_wp2
  go_returns
  exact ⟨ret_agg E1.out E2.out, by go_grown⟩

set_option maxHeartbeats 400000 in
theorem rxor_any (a b c d : Nat) (w : World) (ha : a < 18446744073709551616) (hb : b < 18446744073709551616) (hc : c < 18446744073709551616) (hd : d < 18446744073709551616) :
    Calls Try.prog 76 #[wd a b, wd c d] w fun e w' => e = .returned (wd (a ^^^ c) (b ^^^ d)) ∧ Below w.heap.size w w' := by
  have e1 := u64_xor_nat a c ha hc
  have e2 := u64_xor_nat b d hb hd
  have E1 := hide_ e1
  have E2 := hide_ e2
  clear e1 e2
  unfold wd
  go_enter Try.func76, Try.ntmps76
  go_wp2
  go_returns
  exact ⟨ret_agg E1.out E2.out, by go_grown⟩

set_option maxHeartbeats 400000 in
theorem less_any (a b c d : Nat) (w : World) (ha : a < 18446744073709551616) (hb : b < 18446744073709551616) (hc : c < 18446744073709551616) (hd : d < 18446744073709551616) :
    Calls Try.prog 48 #[wd a b, wd c d] w fun e w' => e = .returned (wd (andn a c) (andn b d)) ∧ Below w.heap.size w w' := by
  have e1 := u64_andNot_nat a c ha hc
  have e2 := u64_andNot_nat b d hb hd
  have E1 := hide_ e1
  have E2 := hide_ e2
  clear e1 e2
  unfold wd
  go_enter Try.func48, Try.ntmps48
  go_wp2
  go_returns
  exact ⟨ret_agg E1.out E2.out, by go_grown⟩

set_option maxHeartbeats 400000 in
theorem rless_any (a b c d : Nat) (w : World) (ha : a < 18446744073709551616) (hb : b < 18446744073709551616) (hc : c < 18446744073709551616) (hd : d < 18446744073709551616) :
    Calls Try.prog 82 #[wd a b, wd c d] w fun e w' => e = .returned (wd (andn a c) (andn b d)) ∧ Below w.heap.size w w' := by
  have e1 := u64_andNot_nat a c ha hc
  have e2 := u64_andNot_nat b d hb hd
  have E1 := hide_ e1
  have E2 := hide_ e2
  clear e1 e2
  unfold wd
  go_enter Try.func82, Try.ntmps82
  go_wp2
  go_returns
  exact ⟨ret_agg E1.out E2.out, by go_grown⟩

set_option maxHeartbeats 400000 in
theorem zero_any (a b : Nat) (w : World) :
    Calls Try.prog 49 #[wd a b] w fun e w' => e = .returned (.bool (a == 0 && b == 0)) ∧ Below w.heap.size w w' := by
  unfold wd
  cases h : (a == 0)
  · have h' : (((a : Nat) : Int) == 0) = false := by simpa using h
    go_enter Try.func49, Try.ntmps49
    go_wp2
    go_ret
    exact ⟨by simp, by go_grown⟩
  · have h' : a = 0 := by simpa using h
    subst h'
    cases k : (b == 0)
    · have k' : (((b : Nat) : Int) == 0) = false := by simpa using k
      go_enter Try.func49, Try.ntmps49
      go_wp2
      go_ret
      exact ⟨by simp, by go_grown⟩
    · have k' : b = 0 := by simpa using k
      subst k'
      go_enter Try.func49, Try.ntmps49
      go_wp2
      go_ret
      exact ⟨rfl, by go_grown⟩

set_option maxHeartbeats 400000 in
theorem rzero_any (a b : Nat) (w : World) :
    Calls Try.prog 75 #[wd a b] w fun e w' => e = .returned (.bool (a == 0 && b == 0)) ∧ Below w.heap.size w w' := by
  unfold wd
  cases h : (a == 0)
  · have h' : (((a : Nat) : Int) == 0) = false := by simpa using h
    go_enter Try.func75, Try.ntmps75
    go_wp2
    go_ret
    exact ⟨by simp, by go_grown⟩
  · have h' : a = 0 := by simpa using h
    subst h'
    cases k : (b == 0)
    · have k' : (((b : Nat) : Int) == 0) = false := by simpa using k
      go_enter Try.func75, Try.ntmps75
      go_wp2
      go_ret
      exact ⟨by simp, by go_grown⟩
    · have k' : b = 0 := by simpa using k
      subst k'
      go_enter Try.func75, Try.ntmps75
      go_wp2
      go_ret
      exact ⟨rfl, by go_grown⟩

/-- how many bits there are -/
def pc (x : Nat) : Nat := if h : x = 0 then 0 else x % 2 + pc (x / 2)

theorem pcr_zero : ∀ n, pcr n 0 = 0
  | 0 => rfl
  | n + 1 => by simp [pcr, pcr_zero n]

theorem pc_pcr : ∀ n x, x < 2 ^ n → pc x = pcr n x
  | 0, x, h => by
    have : x = 0 := by simpa using h
    subst this; rw [pc]; simp [pcr]
  | n + 1, x, h => by
    by_cases hx : x = 0
    · subst hx; rw [pc, pcr_zero]; simp
    · rw [pc, dif_neg hx, pc_pcr n (x / 2) (by rw [Nat.pow_succ] at h; omega)]
      rfl

theorem pc_64 (x : Nat) (h : x < 18446744073709551616) : pcr 64 x = pc x := (pc_pcr 64 x h).symm

theorem pc_le (x : Nat) (h : x < 18446744073709551616) : pc x ≤ 64 := by rw [← pc_64 x h]; exact pcr_le 64 x

theorem oc_q (X : Nat) (w : World) (hX : X < 18446744073709551616) :
    Calls Try.prog 61 #[.int .u64 (X : Int)] w fun e w' => e = .returned (.int .i64 (pc X : Nat)) ∧ w' = w :=
  (oc_any X w hX).mono fun _ _ ⟨h1, h2⟩ => ⟨by rw [h1, pc_64 X hX], h2.symm⟩

end Go.Proofs.Ytickphnfgaibiab
