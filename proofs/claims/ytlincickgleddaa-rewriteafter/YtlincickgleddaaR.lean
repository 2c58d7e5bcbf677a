import Derived.Test.YtlincickgleddaaProg
import Derived.Test.YtlincickgleddaaK
import Derived.Below
import Derived.BigQuiet
import Derived.BigRegion
import Derived.Deep.QuietTactic
import Derived.Deep.RegionHeld3
import Derived.Deep.RegionLaw
import Derived.Deep.RegionLawGrows
import Derived.Handy
import Derived.Laws.AppendOwn
import Derived.Laws.AppendOwnNone
import Derived.Laws.BitsAllLaws
import Derived.Laws.BitsLemmas
import Derived.Laws.CopyOwn
import Derived.Laws.OwnMore
import Derived.Laws.Rows
import Derived.Laws.StructEq
import Derived.OpenShut
import Derived.ProofKit
import Derived.RegionTactic
import Derived.WalkKit
import Derived.WalkLawsBesides
import Derived.WalkSmall
import Derived.WalkSpells
namespace Go.Proofs.Ytlincickgleddaa
open Go Go.RowKit
set_option linter.unusedVariables false
set_option linter.unusedSimpArgs false

/-- a number of two halves -/
def wd (a b : Nat) : Value := .agg #[.int .u64 (a : Int), .int .u64 (b : Int)]

def andn (a c : Nat) : Nat := a &&& (18446744073709551615 - c)

theorem ret_agg {a b c d : Int} (h : a = c) (k : b = d) : Ending.returned (.agg #[.int .u64 a, .int .u64 b]) = .returned (.agg #[.int .u64 c, .int .u64 d]) := by rw [h, k]

theorem and_lt (a c : Nat) (h : a < 18446744073709551616) : a &&& c < 18446744073709551616 := Nat.lt_of_le_of_lt Nat.and_le_left h

theorem or_lt (a c : Nat) (h : a < 18446744073709551616) (k : c < 18446744073709551616) : a ||| c < 18446744073709551616 := by
  have : a ||| c < 2 ^ 64 := Nat.or_lt_two_pow h k
  exact this

theorem xor_lt (a c : Nat) (h : a < 18446744073709551616) (k : c < 18446744073709551616) : a ^^^ c < 18446744073709551616 := by
  have : a ^^^ c < 2 ^ 64 := Nat.xor_lt_two_pow h k
  exact this

set_option maxHeartbeats 400000 in
theorem and_any (a b c d : Nat) (w : World) (ha : a < 18446744073709551616) (hb : b < 18446744073709551616) (hc : c < 18446744073709551616) (hd : d < 18446744073709551616) :
    Calls Try.prog 52 #[wd a b, wd c d] w fun e w' => e = .returned (wd (a &&& c) (b &&& d)) ∧ Below w.heap.size w w' := by
  have e1 := u64_and_nat a c ha hc
  have e2 := u64_and_nat b d hb hd
  have E1 := hide_ e1
  have E2 := hide_ e2
  clear e1 e2
  unfold wd
  go_enter Try.func52, Try.ntmps52
  go_wp2
  go_returns
  exact ⟨ret_agg E1.out E2.out, by go_grown⟩

set_option maxHeartbeats 400000 in
theorem rand_any (a b c d : Nat) (w : World) (ha : a < 18446744073709551616) (hb : b < 18446744073709551616) (hc : c < 18446744073709551616) (hd : d < 18446744073709551616) :
    Calls Try.prog 35 #[wd a b, wd c d] w fun e w' => e = .returned (wd (a &&& c) (b &&& d)) ∧ Below w.heap.size w w' := by
  have e1 := u64_and_nat a c ha hc
  have e2 := u64_and_nat b d hb hd
  have E1 := hide_ e1
  have E2 := hide_ e2
  clear e1 e2
  unfold wd
  go_enter Try.func35, Try.ntmps35
  go_wp2
  go_returns
  exact ⟨ret_agg E1.out E2.out, by go_grown⟩

set_option maxHeartbeats 400000 in
theorem or_any (a b c d : Nat) (w : World) (ha : a < 18446744073709551616) (hb : b < 18446744073709551616) (hc : c < 18446744073709551616) (hd : d < 18446744073709551616) :
    Calls Try.prog 31 #[wd a b, wd c d] w fun e w' => e = .returned (wd (a ||| c) (b ||| d)) ∧ Below w.heap.size w w' := by
  have e1 := u64_or_nat a c ha hc
  have e2 := u64_or_nat b d hb hd
  have E1 := hide_ e1
  have E2 := hide_ e2
  clear e1 e2
  unfold wd
  go_enter Try.func31, Try.ntmps31
  go_wp2
  go_returns
  exact ⟨ret_agg E1.out E2.out, by go_grown⟩

set_option maxHeartbeats 400000 in
theorem ror_any (a b c d : Nat) (w : World) (ha : a < 18446744073709551616) (hb : b < 18446744073709551616) (hc : c < 18446744073709551616) (hd : d < 18446744073709551616) :
    Calls Try.prog 34 #[wd a b, wd c d] w fun e w' => e = .returned (wd (a ||| c) (b ||| d)) ∧ Below w.heap.size w w' := by
  have e1 := u64_or_nat a c ha hc
  have e2 := u64_or_nat b d hb hd
  have E1 := hide_ e1
  have E2 := hide_ e2
  clear e1 e2
  unfold wd
  go_enter Try.func34, Try.ntmps34
  go_wp2
  go_returns
  exact ⟨ret_agg E1.out E2.out, by go_grown⟩

set_option maxHeartbeats 400000 in
theorem xor_any (a b c d : Nat) (w : World) (ha : a < 18446744073709551616) (hb : b < 18446744073709551616) (hc : c < 18446744073709551616) (hd : d < 18446744073709551616) :
    Calls Try.prog 54 #[wd a b, wd c d] w fun e w' => e = .returned (wd (a ^^^ c) (b ^^^ d)) ∧ Below w.heap.size w w' := by
  have e1 := u64_xor_nat a c ha hc
  have e2 := u64_xor_nat b d hb hd
  have E1 := hide_ e1
  have E2 := hide_ e2
  clear e1 e2
  unfold wd
  go_enter Try.func54, Try.ntmps54
  go_wp2
  go_returns
  exact ⟨ret_agg E1.out E2.out, by go_grown⟩

set_option maxHeartbeats 400000 in
theorem rxor_any (a b c d : Nat) (w : World) (ha : a < 18446744073709551616) (hb : b < 18446744073709551616) (hc : c < 18446744073709551616) (hd : d < 18446744073709551616) :
    Calls Try.prog 51 #[wd a b, wd c d] w fun e w' => e = .returned (wd (a ^^^ c) (b ^^^ d)) ∧ Below w.heap.size w w' := by
  have e1 := u64_xor_nat a c ha hc
  have e2 := u64_xor_nat b d hb hd
  have E1 := hide_ e1
  have E2 := hide_ e2
  clear e1 e2
  unfold wd
  go_enter Try.func51, Try.ntmps51
  go_wp2
  go_returns
  exact ⟨ret_agg E1.out E2.out, by go_grown⟩

set_option maxHeartbeats 400000 in
theorem less_any (a b c d : Nat) (w : World) (ha : a < 18446744073709551616) (hb : b < 18446744073709551616) (hc : c < 18446744073709551616) (hd : d < 18446744073709551616) :
    Calls Try.prog 32 #[wd a b, wd c d] w fun e w' => e = .returned (wd (andn a c) (andn b d)) ∧ Below w.heap.size w w' := by
  have e1 := u64_andNot_nat a c ha hc
  have e2 := u64_andNot_nat b d hb hd
  have E1 := hide_ e1
  have E2 := hide_ e2
  clear e1 e2
  unfold wd
  go_enter Try.func32, Try.ntmps32
  go_wp2
  go_returns
  exact ⟨ret_agg E1.out E2.out, by go_grown⟩

set_option maxHeartbeats 400000 in
theorem rless_any (a b c d : Nat) (w : World) (ha : a < 18446744073709551616) (hb : b < 18446744073709551616) (hc : c < 18446744073709551616) (hd : d < 18446744073709551616) :
    Calls Try.prog 30 #[wd a b, wd c d] w fun e w' => e = .returned (wd (andn a c) (andn b d)) ∧ Below w.heap.size w w' := by
  have e1 := u64_andNot_nat a c ha hc
  have e2 := u64_andNot_nat b d hb hd
  have E1 := hide_ e1
  have E2 := hide_ e2
  clear e1 e2
  unfold wd
  go_enter Try.func30, Try.ntmps30
  go_wp2
  go_returns
  exact ⟨ret_agg E1.out E2.out, by go_grown⟩

set_option maxHeartbeats 400000 in
theorem zero_any (a b : Nat) (w : World) :
    Calls Try.prog 53 #[wd a b] w fun e w' => e = .returned (.bool (a == 0 && b == 0)) ∧ Below w.heap.size w w' := by
  unfold wd
  cases h : (a == 0)
  · have h' : (((a : Nat) : Int) == 0) = false := by simpa using h
    go_enter Try.func53, Try.ntmps53
    go_wp2
    go_ret
    exact ⟨by simp, by go_grown⟩
  · have h' : a = 0 := by simpa using h
    subst h'
    cases k : (b == 0)
    · have k' : (((b : Nat) : Int) == 0) = false := by simpa using k
      go_enter Try.func53, Try.ntmps53
      go_wp2
      go_ret
      exact ⟨by simp, by go_grown⟩
    · have k' : b = 0 := by simpa using k
      subst k'
      go_enter Try.func53, Try.ntmps53
      go_wp2
      go_ret
      exact ⟨rfl, by go_grown⟩

set_option maxHeartbeats 400000 in
theorem rzero_any (a b : Nat) (w : World) :
    Calls Try.prog 50 #[wd a b] w fun e w' => e = .returned (.bool (a == 0 && b == 0)) ∧ Below w.heap.size w w' := by
  unfold wd
  cases h : (a == 0)
  · have h' : (((a : Nat) : Int) == 0) = false := by simpa using h
    go_enter Try.func50, Try.ntmps50
    go_wp2
    go_ret
    exact ⟨by simp, by go_grown⟩
  · have h' : a = 0 := by simpa using h
    subst h'
    cases k : (b == 0)
    · have k' : (((b : Nat) : Int) == 0) = false := by simpa using k
      go_enter Try.func50, Try.ntmps50
      go_wp2
      go_ret
      exact ⟨by simp, by go_grown⟩
    · have k' : b = 0 := by simpa using k
      subst k'
      go_enter Try.func50, Try.ntmps50
      go_wp2
      go_ret
      exact ⟨rfl, by go_grown⟩

end Go.Proofs.Ytlincickgleddaa
