import Derived.WalkKit
import Derived.Laws.BitsLemmas
import Derived.WalkSpells
import Derived.WalkLawsBesides
import Derived.Below
import Derived.Handy
namespace Go.Proofs.Ytfeioclnhnipmaa
open Go Go.RowKit
set_option linter.unusedVariables false
set_option linter.unusedSimpArgs false
open Go.RowKit

theorem wraps_i64 (n : Int) (h₀ : 0 ≤ n) (h₁ : n < 2 ^ 63) : IntKind.i64.wrap n = n := by rw [IntKind.wrap_i64]; omega

theorem or8 (x y : Int) (hx₀ : 0 ≤ x) (hx : x % 256 = 0) (hx₁ : x < 9223372036854775808) (h₀ : 0 ≤ y) (h₁ : y ≤ 255) : bits .or .i64 x y = x + y :=
  bits_join .i64 63 (by decide) wraps_i64 8 x y hx₀ hx hx₁ h₀ (by omega) (by omega)

theorem w64 (n : Int) (h₀ : 0 ≤ n) (h₁ : n < 9223372036854775808) : wrap64 n = n := by
  have := wraps_i64 n h₀ h₁
  simpa [wrap64, IntKind.wrap_i64] using this

theorem step8 (x y : Int) (h0 : 0 ≤ x) (h1 : x < 18014398509481984) (h₀ : 0 ≤ y) (h₁ : y ≤ 255) : bits .or .i64 (wrap64 (x * 256)) y = x * 256 + y := by
  rw [w64 (x * 256) (by omega) (by omega), or8 (x * 256) y (by omega) (by omega) (by omega) h₀ h₁]

theorem read4 (a b c d : Int) (ha : 0 ≤ a ∧ a ≤ 255) (hb : 0 ≤ b ∧ b ≤ 255) (hc : 0 ≤ c ∧ c ≤ 255) (hd : 0 ≤ d ∧ d ≤ 255) :
    bits .or .i64 (wrap64 (bits .or .i64 (wrap64 (bits .or .i64 (wrap64 (bits .or .i64 0 a * 256)) b * 256)) c * 256)) d = ((a * 256 + b) * 256 + c) * 256 + d := by
  have e0 : bits .or .i64 0 a = a := by rw [or8 0 a (by omega) (by omega) (by omega) (by omega) (by omega)]; omega
  rw [e0, step8 a b (by omega) (by omega) (by omega) (by omega), step8 _ c (by omega) (by omega) (by omega) (by omega), step8 _ d (by omega) (by omega) (by omega) (by omega)]

theorem ret_int {k : IntKind} {a b : Int} (h : a = b) : Ending.returned (.int k a) = .returned (.int k b) := by rw [h]

end Go.Proofs.Ytfeioclnhnipmaa
