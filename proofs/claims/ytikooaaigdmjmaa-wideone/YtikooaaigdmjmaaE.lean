import Derived.Test.YtikooaaigdmjmaaD
namespace Go.Proofs.Ytikooaaigdmjmaa
open Go.RowKit
set_option linter.unusedVariables false

theorem szB_false {s : Int} (h : szB s = false) : ¬ s = 1 ∧ ¬ s = 2 ∧ ¬ s = 4 := by
  simp [szB] at h; omega

set_option maxHeartbeats 400000 in
theorem rget_arg (a : Option Addr) (len cap : Nat) (k s : Int) (w : World) (h : szB s = false ∨ k < 0) :
    Calls Try.prog 10 #[.slice a len cap, .int .i64 k, .int .i64 s] w fun e w' => e = .returned (.tuple #[.int .i64 0, .int .i64 1]) ∧ w = w' := by
  cases hs : szB s
  · obtain ⟨g1, g2, g4⟩ := szB_false hs
    have e1 : (s != 1) = true := by simpa using g1
    have e2 : (s != 2) = true := by simpa using g2
    have e4 : (s != 4) = true := by simpa using g4
    clear hs h g1 g2 g4
    go_enter Try.func10, Try.ntmps10
    go_wp2
    go_ret2
    exact ⟨rfl, rfl⟩
  · have hk : k < 0 := by rcases h with h | h; (rw [hs] at h; cases h); exact h
    clear h
    rcases szB_true hs with rfl | rfl | rfl
    all_goals
      clear hs
      go_enter Try.func10, Try.ntmps10
      go_wp2
      go_ret2
      exact ⟨rfl, rfl⟩

set_option maxHeartbeats 400000 in
theorem rget_short (a : Option Addr) (len cap : Nat) (k s : Int) (w : World) (hm : len ≤ maxLen) (hs : szB s = true) (h0 : 0 ≤ k) (h : (len : Int) - s < k) :
    Calls Try.prog 10 #[.slice a len cap, .int .i64 k, .int .i64 s] w fun e w' => e = .returned (.tuple #[.int .i64 0, .int .i64 3]) ∧ w = w' := by
  unfold maxLen at hm
  have h3 : ¬ k < 0 := by omega
  by_cases hl : (len : Int) < k
  · rcases szB_true hs with rfl | rfl | rfl
    all_goals
      clear hs
      go_enter Try.func10, Try.ntmps10
      go_wp2
      go_ret2
      exact ⟨rfl, rfl⟩
  · have h4 : (len : Int) - k < s := by omega
    rcases szB_true hs with rfl | rfl | rfl
    all_goals
      clear hs
      go_enter Try.func10, Try.ntmps10
      go_wp2
      go_ret2
      exact ⟨rfl, rfl⟩

set_option maxHeartbeats 1000000 in
theorem rget_ok1 (b off len cap k : Nat) (z0 : Int) (w : World) (hz0 : 0 ≤ z0 ∧ z0 ≤ 255) (hk : k + 1 ≤ len) (hl : len ≤ cap) (hm : cap ≤ maxLen) (hc0 : w.cell? ⟨b, off + k, none⟩ = some (.int .u8 z0)) :
    Calls Try.prog 10 #[.slice (some ⟨b, off, none⟩) len cap, .int .i64 k, .int .i64 1] w fun e w' => e = .returned (.tuple #[.int .i64 z0, .int .i64 0]) ∧ w = w' := by
  unfold maxLen at hm
  have h1 : ¬ ((k : Int) < 0) := by omega
  have h2 : ¬ ((len : Int) < (k : Int)) := by omega
  have h3 : ¬ ((len : Int) - (k : Int) < 1) := by omega
  go_enter Try.func10, Try.ntmps10
  go_wp2
  go_rounds 2
  go_ret2
  exact ⟨ret_int2 (by omega), rfl⟩

set_option maxHeartbeats 1000000 in
theorem rget_ok2 (b off len cap k : Nat) (z0 z1 : Int) (w : World) (hz0 : 0 ≤ z0 ∧ z0 ≤ 255) (hz1 : 0 ≤ z1 ∧ z1 ≤ 255) (hk : k + 2 ≤ len) (hl : len ≤ cap) (hm : cap ≤ maxLen) (hc0 : w.cell? ⟨b, off + k, none⟩ = some (.int .u8 z0)) (hc1 : w.cell? ⟨b, off + k + 1, none⟩ = some (.int .u8 z1)) :
    Calls Try.prog 10 #[.slice (some ⟨b, off, none⟩) len cap, .int .i64 k, .int .i64 2] w fun e w' => e = .returned (.tuple #[.int .i64 (z0 * 256 + z1), .int .i64 0]) ∧ w = w' := by
  unfold maxLen at hm
  rw [Nat.add_assoc] at hc1
  have h1 : ¬ ((k : Int) < 0) := by omega
  have h2 : ¬ ((len : Int) < (k : Int)) := by omega
  have h3 : ¬ ((len : Int) - (k : Int) < 2) := by omega
  go_enter Try.func10, Try.ntmps10
  go_wp2
  go_rounds 3
  go_ret2
  exact ⟨ret_int2 (by omega), rfl⟩

set_option maxHeartbeats 1000000 in
theorem rget_ok4 (b off len cap k : Nat) (z0 z1 z2 z3 : Int) (w : World) (hz0 : 0 ≤ z0 ∧ z0 ≤ 255) (hz1 : 0 ≤ z1 ∧ z1 ≤ 255) (hz2 : 0 ≤ z2 ∧ z2 ≤ 255) (hz3 : 0 ≤ z3 ∧ z3 ≤ 255) (hk : k + 4 ≤ len) (hl : len ≤ cap) (hm : cap ≤ maxLen) (hc0 : w.cell? ⟨b, off + k, none⟩ = some (.int .u8 z0)) (hc1 : w.cell? ⟨b, off + k + 1, none⟩ = some (.int .u8 z1)) (hc2 : w.cell? ⟨b, off + k + 2, none⟩ = some (.int .u8 z2)) (hc3 : w.cell? ⟨b, off + k + 3, none⟩ = some (.int .u8 z3)) :
    Calls Try.prog 10 #[.slice (some ⟨b, off, none⟩) len cap, .int .i64 k, .int .i64 4] w fun e w' => e = .returned (.tuple #[.int .i64 (((z0 * 256 + z1) * 256 + z2) * 256 + z3), .int .i64 0]) ∧ w = w' := by
  unfold maxLen at hm
  rw [Nat.add_assoc] at hc1
  rw [Nat.add_assoc] at hc2
  rw [Nat.add_assoc] at hc3
  have h1 : ¬ ((k : Int) < 0) := by omega
  have h2 : ¬ ((len : Int) < (k : Int)) := by omega
  have h3 : ¬ ((len : Int) - (k : Int) < 4) := by omega
  go_enter Try.func10, Try.ntmps10
  go_wp2
  go_rounds 5
  go_ret2
  exact ⟨ret_int2 (by omega), rfl⟩

end Go.Proofs.Ytikooaaigdmjmaa
