import Derived.Test.YtikooaaigdmjmaaM
namespace Go.Proofs.Ytikooaaigdmjmaa
open Go Go.RowKit
set_option linter.unusedVariables false
set_option linter.unusedSimpArgs false

theorem cell_own {w : World} {base g n rc : Nat} {e : TypeId} {l m : List Int} (h : w.ownsRow base e 1 (.slice (some ⟨g, 0, none⟩) n rc) n (u8s l ++ u8s m)) (i : Nat) (z : Int) (hz : m[i]? = some z) : w.cell? ⟨g, 0 + (l.length + i), none⟩ = some (.int .u8 z) := by
  have := h.cells (g := g) rfl (l.length + i) (.int .u8 z) (by rw [List.getElem?_append_right (by simp [u8s])]; simp [u8s, hz])
  rw [Addr.add_lit] at this
  exact this
theorem and_mask (i : Nat) (hi : i ≤ 32) (n : Int) (h0 : 0 ≤ n) (h1 : n < 4294967296) : bits .and .i64 n (2 ^ i - 1) = n % 2 ^ i :=
  bits_mask .i64 63 (by decide) wraps_i64 i (by omega) n h0 (by omega)

theorem mask1 (n : Int) (h0 : 0 ≤ n) (h1 : n < 4294967296) : bits .and .i64 n 255 = n % 256 := by
  have := and_mask 8 (by decide) n h0 h1
  simp only [Int.reducePow, Int.reduceSub] at this
  rw [this]

set_option maxHeartbeats 1000000 in
theorem numBack_1 (v : Value) (l : List Int) (n k : Int) (w : World) (hB : Bytes w v l) (hl : l.length ≤ 4000) (h0 : 0 ≤ n) (h1 : n < 4294967296) (k0 : 0 ≤ k) (k1 : k ≤ 255) (hk : k % 3 = 0) :
    Calls Try.prog 5 #[v, .int .u32 n, .int .u8 k] w fun e w' => e = .returned (.bool true) ∧ Below w.heap.size w w' := by
  obtain ⟨a, cap, rfl⟩ := hB.short
  have HB := hide_ hB
  obtain ⟨hx1, hc1, hc2, hx2⟩ := hB.bounds
  clear hB hx1 hx2
  have hl' : ¬ (4000 : Int) < (l.length : Int) := by omega
  obtain ⟨M, hM, M0, M1⟩ : ∃ M, bits .and .i64 n 255 = M ∧ 0 ≤ M ∧ M < 256 := ⟨_, mask1 n h0 h1, by omega, by omega⟩
  have HM : ∀ g rc w2, w2.ownsRow w.heap.size 5 1 (.slice (some ⟨g, 0, none⟩) (l.length + 1) rc) (l.length + 1) (u8s l ++ u8s [M % 256]) → l.length + 1 ≤ rc → rc ≤ 2 ^ 63 - 1 →
      Calls Try.prog 9 #[.slice (some ⟨g, 0, none⟩) (l.length + 1) rc, .int .i64 (l.length : Nat), .int .i64 1] w2 fun e w' => e = .returned (.tuple #[.int .i64 M, .int .i64 0]) ∧ Below w2.heap.size w2 w' := by
    intro g rc w2 hown hr1 hr2
    have c0 := cell_own (g := g) hown 0 (M % 256) rfl
    have G := get_ok1 g 0 (l.length + 1) rc l.length (M % 256) w2 (by omega) (by omega) (by omega) (by unfold maxLen; omega) c0
    rw [show M % 256 = M by omega] at G
    exact G
  have HMM := hide_ HM
  clear HM
  go_enter Try.func5, Try.ntmps5
  go_wp2_with fail
  refine (put_1 a cap l M (w.alloc (.cells #[.int .i64 1, .int .i64 2, .int .i64 4] 3)) (HB.out.later (by go_grown)) (by omega) M0 M1).mono ?_
  rintro e w2 ⟨r, rfl, ho, b2⟩
  obtain ⟨g, rc, rfl, hr1, hr2⟩ := own_form ho (by omega)
  have HO := hide_ (ownsRow_base ho (base' := w.heap.size) (by simp))
  have b2' : Below w.heap.size w w2 := (by go_grown : Below w.heap.size w (w.alloc (.cells #[.int .i64 1, .int .i64 2, .int .i64 4] 3))).trans (b2.mono (by simp))
  clear ho b2
  go_wp2_with fail
  refine (HMM.out g rc w2 HO.out hr1 hr2).mono ?_
  rintro e w3 ⟨rfl, b3⟩
  have hv : (M == M) = true := by simp
  go_wp2_with (go_at_call 11; refine (awake_any _).mono ?_; rintro e w4 ⟨rfl, b4⟩)
  go_ret
  have b3' := b2'.trans (b3.mono b2'.size)
  exact ⟨rfl, b3'.trans (b4.mono b3'.size)⟩

theorem mask2 (n : Int) (h0 : 0 ≤ n) (h1 : n < 4294967296) : bits .and .i64 n 65535 = n % 65536 := by
  have := and_mask 16 (by decide) n h0 h1
  simp only [Int.reducePow, Int.reduceSub] at this
  rw [this]

set_option maxHeartbeats 1000000 in
theorem numBack_2 (v : Value) (l : List Int) (n k : Int) (w : World) (hB : Bytes w v l) (hl : l.length ≤ 4000) (h0 : 0 ≤ n) (h1 : n < 4294967296) (k0 : 0 ≤ k) (k1 : k ≤ 255) (hk : k % 3 = 1) :
    Calls Try.prog 5 #[v, .int .u32 n, .int .u8 k] w fun e w' => e = .returned (.bool true) ∧ Below w.heap.size w w' := by
  obtain ⟨a, cap, rfl⟩ := hB.short
  have HB := hide_ hB
  obtain ⟨hx1, hc1, hc2, hx2⟩ := hB.bounds
  clear hB hx1 hx2
  have hl' : ¬ (4000 : Int) < (l.length : Int) := by omega
  obtain ⟨M, hM, M0, M1⟩ : ∃ M, bits .and .i64 n 65535 = M ∧ 0 ≤ M ∧ M < 65536 := ⟨_, mask2 n h0 h1, by omega, by omega⟩
  have HM : ∀ g rc w2, w2.ownsRow w.heap.size 5 1 (.slice (some ⟨g, 0, none⟩) (l.length + 2) rc) (l.length + 2) (u8s l ++ u8s [M / 256 % 256, M % 256]) → l.length + 2 ≤ rc → rc ≤ 2 ^ 63 - 1 →
      Calls Try.prog 9 #[.slice (some ⟨g, 0, none⟩) (l.length + 2) rc, .int .i64 (l.length : Nat), .int .i64 2] w2 fun e w' => e = .returned (.tuple #[.int .i64 M, .int .i64 0]) ∧ Below w2.heap.size w2 w' := by
    intro g rc w2 hown hr1 hr2
    have c0 := cell_own (g := g) hown 0 (M / 256 % 256) rfl
    have c1 := cell_own (g := g) hown 1 (M % 256) rfl
    have G := get_ok2 g 0 (l.length + 2) rc l.length (M / 256 % 256) (M % 256) w2 (by omega) (by omega) (by omega) (by omega) (by unfold maxLen; omega) c0 c1
    rw [show M / 256 % 256 * 256 + M % 256 = M by omega] at G
    exact G
  have HMM := hide_ HM
  clear HM
  go_enter Try.func5, Try.ntmps5
  go_wp2_with fail
  refine (put_2 a cap l M (w.alloc (.cells #[.int .i64 1, .int .i64 2, .int .i64 4] 3)) (HB.out.later (by go_grown)) (by omega) M0 M1).mono ?_
  rintro e w2 ⟨r, rfl, ho, b2⟩
  obtain ⟨g, rc, rfl, hr1, hr2⟩ := own_form ho (by omega)
  have HO := hide_ (ownsRow_base ho (base' := w.heap.size) (by simp))
  have b2' : Below w.heap.size w w2 := (by go_grown : Below w.heap.size w (w.alloc (.cells #[.int .i64 1, .int .i64 2, .int .i64 4] 3))).trans (b2.mono (by simp))
  clear ho b2
  go_wp2_with fail
  refine (HMM.out g rc w2 HO.out hr1 hr2).mono ?_
  rintro e w3 ⟨rfl, b3⟩
  have hv : (M == M) = true := by simp
  go_wp2_with (go_at_call 11; refine (awake_any _).mono ?_; rintro e w4 ⟨rfl, b4⟩)
  go_ret
  have b3' := b2'.trans (b3.mono b2'.size)
  exact ⟨rfl, b3'.trans (b4.mono b3'.size)⟩

theorem mask4 (n : Int) (h0 : 0 ≤ n) (h1 : n < 4294967296) : bits .and .i64 n 4294967295 = n := by
  have := and_mask 32 (by decide) n h0 h1
  simp only [Int.reducePow, Int.reduceSub] at this
  rw [this]; omega

set_option maxHeartbeats 1000000 in
theorem numBack_4 (v : Value) (l : List Int) (n k : Int) (w : World) (hB : Bytes w v l) (hl : l.length ≤ 4000) (h0 : 0 ≤ n) (h1 : n < 4294967296) (k0 : 0 ≤ k) (k1 : k ≤ 255) (hk : k % 3 = 2) :
    Calls Try.prog 5 #[v, .int .u32 n, .int .u8 k] w fun e w' => e = .returned (.bool true) ∧ Below w.heap.size w w' := by
  obtain ⟨a, cap, rfl⟩ := hB.short
  have HB := hide_ hB
  obtain ⟨hx1, hc1, hc2, hx2⟩ := hB.bounds
  clear hB hx1 hx2
  have hl' : ¬ (4000 : Int) < (l.length : Int) := by omega
  obtain ⟨M, hM, M0, M1⟩ : ∃ M, bits .and .i64 n 4294967295 = M ∧ 0 ≤ M ∧ M < 4294967296 := ⟨_, mask4 n h0 h1, by omega, by omega⟩
  have HM : ∀ g rc w2, w2.ownsRow w.heap.size 5 1 (.slice (some ⟨g, 0, none⟩) (l.length + 4) rc) (l.length + 4) (u8s l ++ u8s [M / 16777216, M / 65536 % 256, M / 256 % 256, M % 256]) → l.length + 4 ≤ rc → rc ≤ 2 ^ 63 - 1 →
      Calls Try.prog 9 #[.slice (some ⟨g, 0, none⟩) (l.length + 4) rc, .int .i64 (l.length : Nat), .int .i64 4] w2 fun e w' => e = .returned (.tuple #[.int .i64 M, .int .i64 0]) ∧ Below w2.heap.size w2 w' := by
    intro g rc w2 hown hr1 hr2
    have c0 := cell_own (g := g) hown 0 (M / 16777216) rfl
    have c1 := cell_own (g := g) hown 1 (M / 65536 % 256) rfl
    have c2 := cell_own (g := g) hown 2 (M / 256 % 256) rfl
    have c3 := cell_own (g := g) hown 3 (M % 256) rfl
    have G := get_ok4 g 0 (l.length + 4) rc l.length (M / 16777216) (M / 65536 % 256) (M / 256 % 256) (M % 256) w2 (by omega) (by omega) (by omega) (by omega) (by omega) (by omega) (by unfold maxLen; omega) c0 c1 c2 c3
    rw [show ((M / 16777216 * 256 + M / 65536 % 256) * 256 + M / 256 % 256) * 256 + M % 256 = M by omega] at G
    exact G
  have HMM := hide_ HM
  clear HM
  go_enter Try.func5, Try.ntmps5
  go_wp2_with fail
  refine (put_4 a cap l M (w.alloc (.cells #[.int .i64 1, .int .i64 2, .int .i64 4] 3)) (HB.out.later (by go_grown)) (by omega) M0 M1).mono ?_
  rintro e w2 ⟨r, rfl, ho, b2⟩
  obtain ⟨g, rc, rfl, hr1, hr2⟩ := own_form ho (by omega)
  have HO := hide_ (ownsRow_base ho (base' := w.heap.size) (by simp))
  have b2' : Below w.heap.size w w2 := (by go_grown : Below w.heap.size w (w.alloc (.cells #[.int .i64 1, .int .i64 2, .int .i64 4] 3))).trans (b2.mono (by simp))
  clear ho b2
  go_wp2_with fail
  refine (HMM.out g rc w2 HO.out hr1 hr2).mono ?_
  rintro e w3 ⟨rfl, b3⟩
  have hv : (M == M) = true := by simp
  go_wp2_with (go_at_call 11; refine (awake_any _).mono ?_; rintro e w4 ⟨rfl, b4⟩)
  go_ret
  have b3' := b2'.trans (b3.mono b2'.size)
  exact ⟨rfl, b3'.trans (b4.mono b3'.size)⟩

set_option maxHeartbeats 400000 in
theorem numBack_walk (v : Value) (l : List Int) (n k : Int) (w : World) (hB : Bytes w v l) (h0 : 0 ≤ n) (h1 : n < 4294967296) (k0 : 0 ≤ k) (k1 : k ≤ 255) :
    Calls Try.prog 5 #[v, .int .u32 n, .int .u8 k] w fun e w' => e = .returned (.bool true) ∧ Below w.heap.size w w' := by
  by_cases hl : l.length ≤ 4000
  · have : k % 3 = 0 ∨ k % 3 = 1 ∨ k % 3 = 2 := by omega
    rcases this with hk | hk | hk
    · exact numBack_1 v l n k w hB hl h0 h1 k0 k1 hk
    · exact numBack_2 v l n k w hB hl h0 h1 k0 k1 hk
    · exact numBack_4 v l n k w hB hl h0 h1 k0 k1 hk
  · obtain ⟨a, cap, rfl⟩ := hB.short
    obtain ⟨hx1, hc1, hc2, hx2⟩ := hB.bounds
    clear hB hx1 hx2
    have hl' : (4000 : Int) < (l.length : Int) := by omega
    go_enter Try.func5, Try.ntmps5
    go_wp2_with (go_at_call 11; refine (awake_any _).mono ?_; rintro e w1 ⟨rfl, b1⟩)
    go_ret
    exact ⟨rfl, b1⟩

end Go.Proofs.Ytikooaaigdmjmaa
