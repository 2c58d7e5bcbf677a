import Derived.Test.YtfeioclnhnipmaaProg
import Derived.Test.YtfeioclnhnipmaaA
import Derived.Test.YtfeioclnhnipmaaD
import Derived.Test.YtfeioclnhnipmaaE
import Derived.Below
import Derived.BigQuiet
import Derived.BigRegion
import Derived.Deep.QuietTactic
import Derived.Deep.RegionHeld3
import Derived.Deep.RegionLaw
import Derived.Deep.RegionLawGrows
import Derived.Handy
import Derived.Laws.AppendOwn
import Derived.Laws.AppendOwnNone
import Derived.Laws.BitsAllLaws
import Derived.Laws.BitsLemmas
import Derived.Laws.CopyOwn
import Derived.Laws.OwnMore
import Derived.Laws.Rows
import Derived.Laws.StructEq
import Derived.OpenShut
import Derived.ProofKit
import Derived.RegionTactic
import Derived.WalkKit
import Derived.WalkLawsBesides
import Derived.WalkSmall
import Derived.WalkSpells
namespace Go.Proofs.Ytfeioclnhnipmaa
open Go Go.RowKit
set_option linter.unusedVariables false
set_option linter.unusedSimpArgs false
open Go.RowKit

/-- the greatest number of a size, and one -/
def lim (s : Int) : Int := if s = 1 then 256 else if s = 2 then 65536 else 4294967296

/-- a number is of a size -/
def rightB (n s : Int) : Bool := szB s && (decide (0 ≤ n) && decide (n < lim s))

theorem rightB_not {n s : Int} (h : szB s = false) : rightB n s = false := by simp [rightB, h]

theorem rightB_neg {n s : Int} (h : ¬ 0 ≤ n) : rightB n s = false := by simp [rightB, h]

theorem rightB_in1 {n : Int} (h0 : 0 ≤ n) (h : n < 256) : rightB n 1 = true := by simp [rightB, szB, lim, h0, h]

theorem rightB_out1 {n : Int} (h : ¬ n < 256) : rightB n 1 = false := by simp [rightB, szB, lim]; omega

theorem rightB_in2 {n : Int} (h0 : 0 ≤ n) (h : n < 65536) : rightB n 2 = true := by simp [rightB, szB, lim, h0, h]

theorem rightB_out2 {n : Int} (h : ¬ n < 65536) : rightB n 2 = false := by simp [rightB, szB, lim]; omega

theorem rightB_in4 {n : Int} (h0 : 0 ≤ n) (h : n < 4294967296) : rightB n 4 = true := by simp [rightB, szB, lim, h0, h]

theorem rightB_out4 {n : Int} (h : ¬ n < 4294967296) : rightB n 4 = false := by simp [rightB, szB, lim]; omega

set_option maxHeartbeats 400000 in
theorem right_1 (n : Int) (w : World) :
    Calls Try.prog 17 #[.int .i64 n, .int .i64 1] w fun e w' => e = .returned (.bool (rightB n 1)) ∧ w = w' := by
  have hs : szB 1 = true := rfl
  by_cases h0 : 0 ≤ n
  · by_cases h1 : n < 256
    · rw [rightB_in1 h0 h1]
      have hd : decide (n < 256) = true := by simpa using h1
      have hd2 : decide (n ≤ 255) = true := by simp; omega
      go_enter Try.func17, Try.ntmps17
      go_wp2_with (go_at_call 29; refine (isSize_any _ _).mono ?_; rintro e w' ⟨rfl, rfl⟩)
      go_ret
      exact ⟨rfl, rfl⟩
    · rw [rightB_out1 h1]
      have hd : decide (n < 256) = false := by simpa using h1
      have hd2 : decide (n ≤ 255) = false := by simp; omega
      go_enter Try.func17, Try.ntmps17
      go_wp2_with (go_at_call 29; refine (isSize_any _ _).mono ?_; rintro e w' ⟨rfl, rfl⟩)
      go_ret
      exact ⟨rfl, rfl⟩
  · rw [rightB_neg h0]
    have hd : decide (0 ≤ n) = false := by simpa using h0
    go_enter Try.func17, Try.ntmps17
    go_wp2_with (go_at_call 29; refine (isSize_any _ _).mono ?_; rintro e w' ⟨rfl, rfl⟩)
    go_ret
    exact ⟨rfl, rfl⟩

set_option maxHeartbeats 400000 in
theorem rright_1 (n : Int) (w : World) :
    Calls Try.prog 21 #[.int .i64 n, .int .i64 1] w fun e w' => e = .returned (.bool (rightB n 1)) ∧ w = w' := by
  have hs : szB 1 = true := rfl
  by_cases h0 : 0 ≤ n
  · by_cases h1 : n < 256
    · rw [rightB_in1 h0 h1]
      have hd : decide (n < 256) = true := by simpa using h1
      have hd2 : decide (n ≤ 255) = true := by simp; omega
      go_enter Try.func21, Try.ntmps21
      go_wp2
      go_ret
      exact ⟨rfl, rfl⟩
    · rw [rightB_out1 h1]
      have hd : decide (n < 256) = false := by simpa using h1
      have hd2 : decide (n ≤ 255) = false := by simp; omega
      go_enter Try.func21, Try.ntmps21
      go_wp2
      go_ret
      exact ⟨rfl, rfl⟩
  · rw [rightB_neg h0]
    have hd : decide (0 ≤ n) = false := by simpa using h0
    go_enter Try.func21, Try.ntmps21
    go_wp2
    go_ret
    exact ⟨rfl, rfl⟩

set_option maxHeartbeats 400000 in
theorem right_2 (n : Int) (w : World) :
    Calls Try.prog 17 #[.int .i64 n, .int .i64 2] w fun e w' => e = .returned (.bool (rightB n 2)) ∧ w = w' := by
  have hs : szB 2 = true := rfl
  by_cases h0 : 0 ≤ n
  · by_cases h1 : n < 65536
    · rw [rightB_in2 h0 h1]
      have hd : decide (n < 65536) = true := by simpa using h1
      have hd2 : decide (n ≤ 65535) = true := by simp; omega
      go_enter Try.func17, Try.ntmps17
      go_wp2_with (go_at_call 29; refine (isSize_any _ _).mono ?_; rintro e w' ⟨rfl, rfl⟩)
      go_ret
      exact ⟨rfl, rfl⟩
    · rw [rightB_out2 h1]
      have hd : decide (n < 65536) = false := by simpa using h1
      have hd2 : decide (n ≤ 65535) = false := by simp; omega
      go_enter Try.func17, Try.ntmps17
      go_wp2_with (go_at_call 29; refine (isSize_any _ _).mono ?_; rintro e w' ⟨rfl, rfl⟩)
      go_ret
      exact ⟨rfl, rfl⟩
  · rw [rightB_neg h0]
    have hd : decide (0 ≤ n) = false := by simpa using h0
    go_enter Try.func17, Try.ntmps17
    go_wp2_with (go_at_call 29; refine (isSize_any _ _).mono ?_; rintro e w' ⟨rfl, rfl⟩)
    go_ret
    exact ⟨rfl, rfl⟩

set_option maxHeartbeats 400000 in
theorem rright_2 (n : Int) (w : World) :
    Calls Try.prog 21 #[.int .i64 n, .int .i64 2] w fun e w' => e = .returned (.bool (rightB n 2)) ∧ w = w' := by
  have hs : szB 2 = true := rfl
  by_cases h0 : 0 ≤ n
  · by_cases h1 : n < 65536
    · rw [rightB_in2 h0 h1]
      have hd : decide (n < 65536) = true := by simpa using h1
      have hd2 : decide (n ≤ 65535) = true := by simp; omega
      go_enter Try.func21, Try.ntmps21
      go_wp2
      go_ret
      exact ⟨rfl, rfl⟩
    · rw [rightB_out2 h1]
      have hd : decide (n < 65536) = false := by simpa using h1
      have hd2 : decide (n ≤ 65535) = false := by simp; omega
      go_enter Try.func21, Try.ntmps21
      go_wp2
      go_ret
      exact ⟨rfl, rfl⟩
  · rw [rightB_neg h0]
    have hd : decide (0 ≤ n) = false := by simpa using h0
    go_enter Try.func21, Try.ntmps21
    go_wp2
    go_ret
    exact ⟨rfl, rfl⟩

set_option maxHeartbeats 400000 in
theorem right_4 (n : Int) (w : World) :
    Calls Try.prog 17 #[.int .i64 n, .int .i64 4] w fun e w' => e = .returned (.bool (rightB n 4)) ∧ w = w' := by
  have hs : szB 4 = true := rfl
  by_cases h0 : 0 ≤ n
  · by_cases h1 : n < 4294967296
    · rw [rightB_in4 h0 h1]
      have hd : decide (n < 4294967296) = true := by simpa using h1
      have hd2 : decide (n ≤ 4294967295) = true := by simp; omega
      go_enter Try.func17, Try.ntmps17
      go_wp2_with (go_at_call 29; refine (isSize_any _ _).mono ?_; rintro e w' ⟨rfl, rfl⟩)
      go_ret
      exact ⟨rfl, rfl⟩
    · rw [rightB_out4 h1]
      have hd : decide (n < 4294967296) = false := by simpa using h1
      have hd2 : decide (n ≤ 4294967295) = false := by simp; omega
      go_enter Try.func17, Try.ntmps17
      go_wp2_with (go_at_call 29; refine (isSize_any _ _).mono ?_; rintro e w' ⟨rfl, rfl⟩)
      go_ret
      exact ⟨rfl, rfl⟩
  · rw [rightB_neg h0]
    have hd : decide (0 ≤ n) = false := by simpa using h0
    go_enter Try.func17, Try.ntmps17
    go_wp2_with (go_at_call 29; refine (isSize_any _ _).mono ?_; rintro e w' ⟨rfl, rfl⟩)
    go_ret
    exact ⟨rfl, rfl⟩

set_option maxHeartbeats 400000 in
theorem rright_4 (n : Int) (w : World) :
    Calls Try.prog 21 #[.int .i64 n, .int .i64 4] w fun e w' => e = .returned (.bool (rightB n 4)) ∧ w = w' := by
  have hs : szB 4 = true := rfl
  by_cases h0 : 0 ≤ n
  · by_cases h1 : n < 4294967296
    · rw [rightB_in4 h0 h1]
      have hd : decide (n < 4294967296) = true := by simpa using h1
      have hd2 : decide (n ≤ 4294967295) = true := by simp; omega
      go_enter Try.func21, Try.ntmps21
      go_wp2
      go_ret
      exact ⟨rfl, rfl⟩
    · rw [rightB_out4 h1]
      have hd : decide (n < 4294967296) = false := by simpa using h1
      have hd2 : decide (n ≤ 4294967295) = false := by simp; omega
      go_enter Try.func21, Try.ntmps21
      go_wp2
      go_ret
      exact ⟨rfl, rfl⟩
  · rw [rightB_neg h0]
    have hd : decide (0 ≤ n) = false := by simpa using h0
    go_enter Try.func21, Try.ntmps21
    go_wp2
    go_ret
    exact ⟨rfl, rfl⟩

set_option maxHeartbeats 400000 in
theorem right_any (n s : Int) (w : World) :
    Calls Try.prog 17 #[.int .i64 n, .int .i64 s] w fun e w' => e = .returned (.bool (rightB n s)) ∧ w = w' := by
  cases hs : szB s
  · obtain ⟨g1, g2, g4⟩ := szB_false hs
    have e1 : (s == 1) = false := by simpa using g1
    have e2 : (s == 2) = false := by simpa using g2
    have e4 : (s == 4) = false := by simpa using g4
    rw [rightB_not hs]
    clear g1 g2 g4
    go_enter Try.func17, Try.ntmps17
    go_wp2_with (go_at_call 29; refine (isSize_any _ _).mono ?_; rintro e w' ⟨rfl, rfl⟩)
    go_ret
    exact ⟨rfl, rfl⟩
  · rcases szB_true hs with rfl | rfl | rfl
    · exact right_1 n w
    · exact right_2 n w
    · exact right_4 n w

set_option maxHeartbeats 400000 in
theorem rright_any (n s : Int) (w : World) :
    Calls Try.prog 21 #[.int .i64 n, .int .i64 s] w fun e w' => e = .returned (.bool (rightB n s)) ∧ w = w' := by
  cases hs : szB s
  · obtain ⟨g1, g2, g4⟩ := szB_false hs
    have e1 : (s == 1) = false := by simpa using g1
    have e2 : (s == 2) = false := by simpa using g2
    have e4 : (s == 4) = false := by simpa using g4
    rw [rightB_not hs]
    clear g1 g2 g4
    go_enter Try.func21, Try.ntmps21
    go_wp2
    go_ret
    exact ⟨rfl, rfl⟩
  · rcases szB_true hs with rfl | rfl | rfl
    · exact rright_1 n w
    · exact rright_2 n w
    · exact rright_4 n w

set_option maxHeartbeats 400000 in
theorem spell_any (n : Int) (w : World) (h0 : 0 ≤ n) (h1 : n < 4294967296) :
    Calls Try.prog 31 #[.int .i64 n] w fun e w' => e = .returned (.agg #[.int .u8 (n / 16777216), .int .u8 (n / 65536 % 256), .int .u8 (n / 256 % 256), .int .u8 (n % 256)]) ∧ Below w.heap.size w w' := by
  go_enter Try.func31, Try.ntmps31
  go_wp2
  go_rounds 5
  go_returns
  exact ⟨rfl, by go_grown⟩

end Go.Proofs.Ytfeioclnhnipmaa
