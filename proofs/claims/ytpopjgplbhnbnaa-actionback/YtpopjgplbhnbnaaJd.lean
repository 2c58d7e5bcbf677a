import Derived.Test.YtpopjgplbhnbnaaJa
import Derived.Test.YtpopjgplbhnbnaaOe
import Derived.Test.YtpopjgplbhnbnaaOf
import Derived.Deep.RegionHeld3
import Derived.Deep.RegionWith
import Derived.Deep.MidRow
import Derived.Deep.Cut
namespace Go.Proofs.Ytpopjgplbhnbnaa
section
open Go Go.RowKit
set_option linter.unusedVariables false
set_option linter.unusedSimpArgs false

def sameB (k p x q y f : Int) (m : Bool) (a b c d : Nat) (k2 p2 x2 q2 y2 f2 : Int) (m2 : Bool) (a2 b2 c2 d2 : Nat) : Bool := decide (k = k2) && (decide (p = p2) && (decide (x = x2) && (decide (q = q2) && (decide (y = y2) && decide ((f, m, a, b, c, d) = (f2, m2, a2, b2, c2, d2))))))
theorem dbeq (x y : Int) : (x == y) = decide (x = y) := by rw [Bool.eq_iff_iff]; simp
set_option maxRecDepth 100000 in
set_option maxHeartbeats 4000000 in
theorem run_aeq (k p x q y f : Int) (m : Bool) (a b c d : Nat) (k2 p2 x2 q2 y2 f2 : Int) (m2 : Bool) (a2 b2 c2 d2 : Nat) (w : World) :
    (Op.equalIn 10000 28 (.agg #[.int .i64 k, .int .i64 p, .int .i64 x, .int .i64 q, .int .i64 y, .int .i64 f, .bool m, .int .u64 (a : Int), .int .u64 (b : Int), .int .u64 (c : Int), .int .u64 (d : Int)]) (.agg #[.int .i64 k2, .int .i64 p2, .int .i64 x2, .int .i64 q2, .int .i64 y2, .int .i64 f2, .bool m2, .int .u64 (a2 : Int), .int .u64 (b2 : Int), .int .u64 (c2 : Int), .int .u64 (d2 : Int)])).run Try.prog w = .ok (sameB k p x q y f m a b c d k2 p2 x2 q2 y2 f2 m2 a2 b2 c2 d2) w := by
  go_simp
  unfold sameB
  repeat' split
  all_goals (first | (simp_all; done) | (simp_all; omega))

set_option maxRecDepth 100000 in
set_option maxHeartbeats 4000000 in
theorem asame_any (k p x q y f : Int) (m : Bool) (a b c d : Nat) (k2 p2 x2 q2 y2 f2 : Int) (m2 : Bool) (a2 b2 c2 d2 : Nat) (w : World) :
    Calls Try.prog 13 #[av k p x q y f m a b c d, av k2 p2 x2 q2 y2 f2 m2 a2 b2 c2 d2] w fun e w' => e = .returned (.bool (sameB k p x q y f m a b c d k2 p2 x2 q2 y2 f2 m2 a2 b2 c2 d2)) ∧ Below w.heap.size w w' := by
  have heq := fun w => run_aeq k p x q y f m a b c d k2 p2 x2 q2 y2 f2 m2 a2 b2 c2 d2 w
  have B0 := hide_ (below2 w (.cells #[.int .i64 k, .int .i64 p, .int .i64 x, .int .i64 q, .int .i64 y, .int .i64 f, .bool m, .int .u64 (a : Int), .int .u64 (b : Int), .int .u64 (c : Int), .int .u64 (d : Int)] 28) (.cells #[.int .i64 k2, .int .i64 p2, .int .i64 x2, .int .i64 q2, .int .i64 y2, .int .i64 f2, .bool m2, .int .u64 (a2 : Int), .int .u64 (b2 : Int), .int .u64 (c2 : Int), .int .u64 (d2 : Int)] 28))
  generalize sameB k p x q y f m a b c d k2 p2 x2 q2 y2 f2 m2 a2 b2 c2 d2 = z at *
  unfold av
  go_enter Try.func13, Try.ntmps13
  go_wp2_with fail
  go_ret
  exact ⟨rfl, B0.out⟩

set_option maxRecDepth 100000 in
set_option maxHeartbeats 4000000 in
theorem rasame_any (k p x q y f : Int) (m : Bool) (a b c d : Nat) (k2 p2 x2 q2 y2 f2 : Int) (m2 : Bool) (a2 b2 c2 d2 : Nat) (w : World) :
    Calls Try.prog 14 #[av k p x q y f m a b c d, av k2 p2 x2 q2 y2 f2 m2 a2 b2 c2 d2] w fun e w' => e = .returned (.bool (sameB k p x q y f m a b c d k2 p2 x2 q2 y2 f2 m2 a2 b2 c2 d2)) ∧ Below w.heap.size w w' := by
  have qs := hide_ (fun w => rosame_any f m a b c d f2 m2 a2 b2 c2 d2 w)
  have B0 := hide_ (below2 w (.cells #[.int .i64 k, .int .i64 p, .int .i64 x, .int .i64 q, .int .i64 y, .int .i64 f, .bool m, .int .u64 (a : Int), .int .u64 (b : Int), .int .u64 (c : Int), .int .u64 (d : Int)] 28) (.cells #[.int .i64 k2, .int .i64 p2, .int .i64 x2, .int .i64 q2, .int .i64 y2, .int .i64 f2, .bool m2, .int .u64 (a2 : Int), .int .u64 (b2 : Int), .int .u64 (c2 : Int), .int .u64 (d2 : Int)] 28))
  unfold ov at qs
  unfold av
  by_cases ek : k = k2
  · subst ek
    by_cases ep : p = p2
    · subst ep
      by_cases ex : x = x2
      · subst ex
        by_cases eq : q = q2
        · subst eq
          by_cases ey : y = y2
          · subst ey
            go_enter Try.func14, Try.ntmps14
            go_wp2_with (go_at_call 32; refine (qs.out _).mono ?_; rintro e w1 ⟨rfl, b1⟩)
            go_ret
            exact ⟨by simp [sameB], B0.out.trans (b1.mono B0.out.size)⟩
          · have gy : (y == y2) = false := by simpa using ey
            go_enter Try.func14, Try.ntmps14
            go_wp2_with fail
            go_ret
            exact ⟨by simp [sameB, ey], B0.out⟩
        · have gq : (q == q2) = false := by simpa using eq
          go_enter Try.func14, Try.ntmps14
          go_wp2_with fail
          go_ret
          exact ⟨by simp [sameB, eq], B0.out⟩
      · have gx : (x == x2) = false := by simpa using ex
        go_enter Try.func14, Try.ntmps14
        go_wp2_with fail
        go_ret
        exact ⟨by simp [sameB, ex], B0.out⟩
    · have gp : (p == p2) = false := by simpa using ep
      go_enter Try.func14, Try.ntmps14
      go_wp2_with fail
      go_ret
      exact ⟨by simp [sameB, ep], B0.out⟩
  · have gk : (k == k2) = false := by simpa using ek
    go_enter Try.func14, Try.ntmps14
    go_wp2_with fail
    go_ret
    exact ⟨by simp [sameB, ek], B0.out⟩

set_option maxRecDepth 100000 in
set_option maxHeartbeats 4000000 in
theorem rmost_any (k p x q y f : Int) (m : Bool) (a b c d : Nat) (w : World) :
    Calls Try.prog 28 #[av k p x q y f m a b c d] w fun e w' => e = .returned (.bool (tkB p x)) ∧ Below w.heap.size w w' := by
  have B0 := hide_ (below1 w (.cells #[.int .i64 k, .int .i64 p, .int .i64 x, .int .i64 q, .int .i64 y, .int .i64 f, .bool m, .int .u64 (a : Int), .int .u64 (b : Int), .int .u64 (c : Int), .int .u64 (d : Int)] 28))
  unfold av
  by_cases h0 : x = 0
  · subst h0
    go_enter Try.func28, Try.ntmps28
    go_wp2_with fail
    go_ret
    exact ⟨congrArg (fun z => Ending.returned (Value.bool z)) (by rw [Bool.eq_iff_iff]; simp [tkB]), B0.out⟩
  · have g0 : (x == 0) = false := by simpa using h0
    by_cases h1 : p = 4294967293
    · subst h1
      by_cases h2 : 0 < x
      · go_enter Try.func28, Try.ntmps28
        go_wp2_with fail
        go_ret
        exact ⟨congrArg (fun z => Ending.returned (Value.bool z)) (by rw [Bool.eq_iff_iff]; simp [tkB]; omega), B0.out⟩
      · go_enter Try.func28, Try.ntmps28
        go_wp2_with fail
        go_ret
        exact ⟨congrArg (fun z => Ending.returned (Value.bool z)) (by rw [Bool.eq_iff_iff]; simp [tkB]; omega), B0.out⟩
    · have g1 : (p == 4294967293) = false := by simpa using h1
      go_enter Try.func28, Try.ntmps28
      go_wp2_with fail
      go_ret
      exact ⟨congrArg (fun z => Ending.returned (Value.bool z)) (by rw [Bool.eq_iff_iff]; simp [tkB, h0, h1]), B0.out⟩
end

section
open Go Go.RowKit
set_option linter.unusedVariables false
set_option linter.unusedSimpArgs false

set_option maxRecDepth 100000 in
set_option maxHeartbeats 4000000 in
theorem rar_0a (p x q y f : Int) (m : Bool) (a b c d : Nat) (w : World) (hg : goB p = false) :
    Calls Try.prog 10 #[.agg #[.int .i64 0, .int .i64 p, .int .i64 x, .int .i64 q, .int .i64 y, .int .i64 f, .bool m, .int .u64 (a : Int), .int .u64 (b : Int), .int .u64 (c : Int), .int .u64 (d : Int)]] w fun e w' => e = .returned (.bool (false)) ∧ Below w.heap.size w w' := by
  have A0 := hide_ (AB.at0 w 28 [.int .i64 0, .int .i64 p, .int .i64 x, .int .i64 q, .int .i64 y, .int .i64 f, .bool m, .int .u64 (a : Int), .int .u64 (b : Int), .int .u64 (c : Int), .int .u64 (d : Int)])
  have B0 := hide_ (below1 w (.cells #[.int .i64 0, .int .i64 p, .int .i64 x, .int .i64 q, .int .i64 y, .int .i64 f, .bool m, .int .u64 (a : Int), .int .u64 (b : Int), .int .u64 (c : Int), .int .u64 (d : Int)] 28))
  have qg := fun w => rgoes_any p w
  rw [hg] at qg
  have qg := hide_ qg
  go_enter Try.func10, Try.ntmps10
  go_wp2_with (go_at_call 27; refine (qg.out _).mono ?_; rintro e w' ⟨rfl, rfl⟩)
  go_ret
  exact ⟨rfl, B0.out⟩

set_option maxRecDepth 100000 in
set_option maxHeartbeats 4000000 in
theorem rar_0b (p x q y f : Int) (m : Bool) (a b c d : Nat) (w : World) (hg : goB p = true) (hm : tkB p x = false) :
    Calls Try.prog 10 #[.agg #[.int .i64 0, .int .i64 p, .int .i64 x, .int .i64 q, .int .i64 y, .int .i64 f, .bool m, .int .u64 (a : Int), .int .u64 (b : Int), .int .u64 (c : Int), .int .u64 (d : Int)]] w fun e w' => e = .returned (.bool (false)) ∧ Below w.heap.size w w' := by
  have A0 := hide_ (AB.at0 w 28 [.int .i64 0, .int .i64 p, .int .i64 x, .int .i64 q, .int .i64 y, .int .i64 f, .bool m, .int .u64 (a : Int), .int .u64 (b : Int), .int .u64 (c : Int), .int .u64 (d : Int)])
  have B0 := hide_ (below1 w (.cells #[.int .i64 0, .int .i64 p, .int .i64 x, .int .i64 q, .int .i64 y, .int .i64 f, .bool m, .int .u64 (a : Int), .int .u64 (b : Int), .int .u64 (c : Int), .int .u64 (d : Int)] 28))
  have qg := fun w => rgoes_any p w
  rw [hg] at qg
  have qg := hide_ qg
  have qm := fun w => rmost_any 0 p x q y f m a b c d w
  rw [hm] at qm
  unfold av at qm
  have qm := hide_ qm
  go_enter Try.func10, Try.ntmps10
  go_wp2_with (first | (go_at_call 27; refine (qg.out _).mono ?_; rintro e w' ⟨rfl, rfl⟩) | (go_at_call 28; refine (qm.out _).mono ?_; rintro e w1 ⟨rfl, b1⟩; obtain ⟨yb10, yb11, yb12, yb13, yb14, yb15, yb16, yb17, yb18, yb19, yb110, -⟩ := (A0.out.later b1).eleven))
  go_ret
  exact ⟨rfl, B0.out.trans (b1.mono B0.out.size)⟩

set_option maxRecDepth 100000 in
set_option maxHeartbeats 4000000 in
theorem rar_0c (p x q y f : Int) (m : Bool) (a b c d : Nat) (w : World) (hg : goB p = true) (hm : tkB p x = true) :
    Calls Try.prog 10 #[.agg #[.int .i64 0, .int .i64 p, .int .i64 x, .int .i64 q, .int .i64 y, .int .i64 f, .bool m, .int .u64 (a : Int), .int .u64 (b : Int), .int .u64 (c : Int), .int .u64 (d : Int)]] w fun e w' => e = .returned (.bool (sameB 0 p x q y f m a b c d 0 p x 0 0 0 false 0 0 0 0)) ∧ Below w.heap.size w w' := by
  have A0 := hide_ (AB.at0 w 28 [.int .i64 0, .int .i64 p, .int .i64 x, .int .i64 q, .int .i64 y, .int .i64 f, .bool m, .int .u64 (a : Int), .int .u64 (b : Int), .int .u64 (c : Int), .int .u64 (d : Int)])
  have B0 := hide_ (below1 w (.cells #[.int .i64 0, .int .i64 p, .int .i64 x, .int .i64 q, .int .i64 y, .int .i64 f, .bool m, .int .u64 (a : Int), .int .u64 (b : Int), .int .u64 (c : Int), .int .u64 (d : Int)] 28))
  have qg := fun w => rgoes_any p w
  rw [hg] at qg
  have qg := hide_ qg
  have qm := fun w => rmost_any 0 p x q y f m a b c d w
  rw [hm] at qm
  unfold av at qm
  have qm := hide_ qm
  have qs : Hid (∀ w, Calls Try.prog 14 #[.agg #[.int .i64 0, .int .i64 p, .int .i64 x, .int .i64 q, .int .i64 y, .int .i64 f, .bool m, .int .u64 (a : Int), .int .u64 (b : Int), .int .u64 (c : Int), .int .u64 (d : Int)], .agg #[.int .i64 0, .int .i64 p, .int .i64 x, .int .i64 0, .int .i64 0, .int .i64 0, .bool false, .int .u64 0, .int .u64 0, .int .u64 0, .int .u64 0]] w fun e w' => e = .returned (.bool (sameB 0 p x q y f m a b c d 0 p x 0 0 0 false 0 0 0 0)) ∧ Below w.heap.size w w') := hide_ (fun w => rasame_any 0 p x q y f m a b c d 0 p x 0 0 0 false 0 0 0 0 w)
  generalize sameB 0 p x q y f m a b c d 0 p x 0 0 0 false 0 0 0 0 = z at *
  go_enter Try.func10, Try.ntmps10
  go_wp2_with (first | (go_at_call 27; refine (qg.out _).mono ?_; rintro e w' ⟨rfl, rfl⟩) | (go_at_call 28; refine (qm.out _).mono ?_; rintro e w1 ⟨rfl, b1⟩; obtain ⟨yb10, yb11, yb12, yb13, yb14, yb15, yb16, yb17, yb18, yb19, yb110, -⟩ := (A0.out.later b1).eleven) | (go_at_call 14; refine (qs.out _).mono ?_; rintro e w9 ⟨rfl, b9⟩))
  go_ret
  exact ⟨rfl, B0.out.trans ((b1.trans (b9.mono b1.size)).mono B0.out.size)⟩

set_option maxRecDepth 100000 in
set_option maxHeartbeats 4000000 in
theorem rar_22a (p x q y f : Int) (m : Bool) (a b c d : Nat) (w : World) (h : ¬ 0 ≤ q) :
    Calls Try.prog 10 #[.agg #[.int .i64 22, .int .i64 p, .int .i64 x, .int .i64 q, .int .i64 y, .int .i64 f, .bool m, .int .u64 (a : Int), .int .u64 (b : Int), .int .u64 (c : Int), .int .u64 (d : Int)]] w fun e w' => e = .returned (.bool (false)) ∧ Below w.heap.size w w' := by
  have A0 := hide_ (AB.at0 w 28 [.int .i64 22, .int .i64 p, .int .i64 x, .int .i64 q, .int .i64 y, .int .i64 f, .bool m, .int .u64 (a : Int), .int .u64 (b : Int), .int .u64 (c : Int), .int .u64 (d : Int)])
  have B0 := hide_ (below1 w (.cells #[.int .i64 22, .int .i64 p, .int .i64 x, .int .i64 q, .int .i64 y, .int .i64 f, .bool m, .int .u64 (a : Int), .int .u64 (b : Int), .int .u64 (c : Int), .int .u64 (d : Int)] 28))
  go_enter Try.func10, Try.ntmps10
  go_wp2_with fail
  go_ret
  exact ⟨rfl, B0.out⟩

set_option maxRecDepth 100000 in
set_option maxHeartbeats 4000000 in
theorem rar_22b (p x q y f : Int) (m : Bool) (a b c d : Nat) (w : World) (h : 0 ≤ q) (h2 : ¬ q ≤ 4294967040) :
    Calls Try.prog 10 #[.agg #[.int .i64 22, .int .i64 p, .int .i64 x, .int .i64 q, .int .i64 y, .int .i64 f, .bool m, .int .u64 (a : Int), .int .u64 (b : Int), .int .u64 (c : Int), .int .u64 (d : Int)]] w fun e w' => e = .returned (.bool (false)) ∧ Below w.heap.size w w' := by
  have A0 := hide_ (AB.at0 w 28 [.int .i64 22, .int .i64 p, .int .i64 x, .int .i64 q, .int .i64 y, .int .i64 f, .bool m, .int .u64 (a : Int), .int .u64 (b : Int), .int .u64 (c : Int), .int .u64 (d : Int)])
  have B0 := hide_ (below1 w (.cells #[.int .i64 22, .int .i64 p, .int .i64 x, .int .i64 q, .int .i64 y, .int .i64 f, .bool m, .int .u64 (a : Int), .int .u64 (b : Int), .int .u64 (c : Int), .int .u64 (d : Int)] 28))
  go_enter Try.func10, Try.ntmps10
  go_wp2_with fail
  go_ret
  exact ⟨rfl, B0.out⟩

set_option maxRecDepth 100000 in
set_option maxHeartbeats 4000000 in
theorem rar_22c (p x q y f : Int) (m : Bool) (a b c d : Nat) (w : World) (h : 0 ≤ q) (h2 : q ≤ 4294967040) :
    Calls Try.prog 10 #[.agg #[.int .i64 22, .int .i64 p, .int .i64 x, .int .i64 q, .int .i64 y, .int .i64 f, .bool m, .int .u64 (a : Int), .int .u64 (b : Int), .int .u64 (c : Int), .int .u64 (d : Int)]] w fun e w' => e = .returned (.bool (sameB 22 p x q y f m a b c d 22 0 0 q 0 0 false 0 0 0 0)) ∧ Below w.heap.size w w' := by
  have A0 := hide_ (AB.at0 w 28 [.int .i64 22, .int .i64 p, .int .i64 x, .int .i64 q, .int .i64 y, .int .i64 f, .bool m, .int .u64 (a : Int), .int .u64 (b : Int), .int .u64 (c : Int), .int .u64 (d : Int)])
  have B0 := hide_ (below1 w (.cells #[.int .i64 22, .int .i64 p, .int .i64 x, .int .i64 q, .int .i64 y, .int .i64 f, .bool m, .int .u64 (a : Int), .int .u64 (b : Int), .int .u64 (c : Int), .int .u64 (d : Int)] 28))
  have qs : Hid (∀ w, Calls Try.prog 14 #[.agg #[.int .i64 22, .int .i64 p, .int .i64 x, .int .i64 q, .int .i64 y, .int .i64 f, .bool m, .int .u64 (a : Int), .int .u64 (b : Int), .int .u64 (c : Int), .int .u64 (d : Int)], .agg #[.int .i64 22, .int .i64 0, .int .i64 0, .int .i64 q, .int .i64 0, .int .i64 0, .bool false, .int .u64 0, .int .u64 0, .int .u64 0, .int .u64 0]] w fun e w' => e = .returned (.bool (sameB 22 p x q y f m a b c d 22 0 0 q 0 0 false 0 0 0 0)) ∧ Below w.heap.size w w') := hide_ (fun w => rasame_any 22 p x q y f m a b c d 22 0 0 q 0 0 false 0 0 0 0 w)
  generalize sameB 22 p x q y f m a b c d 22 0 0 q 0 0 false 0 0 0 0 = z at *
  go_enter Try.func10, Try.ntmps10
  go_wp2_with (first  | (go_at_call 14; refine (qs.out _).mono ?_; rintro e w9 ⟨rfl, b9⟩))
  go_ret
  exact ⟨rfl, B0.out.trans (b9.mono B0.out.size)⟩

set_option maxRecDepth 100000 in
set_option maxHeartbeats 4000000 in
theorem rar_17a (p x q y f : Int) (m : Bool) (a b c d : Nat) (w : World) (h : y = 33024) :
    Calls Try.prog 10 #[.agg #[.int .i64 17, .int .i64 p, .int .i64 x, .int .i64 q, .int .i64 y, .int .i64 f, .bool m, .int .u64 (a : Int), .int .u64 (b : Int), .int .u64 (c : Int), .int .u64 (d : Int)]] w fun e w' => e = .returned (.bool (sameB 17 p x q y f m a b c d 17 0 0 0 y 0 false 0 0 0 0)) ∧ Below w.heap.size w w' := by
  have A0 := hide_ (AB.at0 w 28 [.int .i64 17, .int .i64 p, .int .i64 x, .int .i64 q, .int .i64 y, .int .i64 f, .bool m, .int .u64 (a : Int), .int .u64 (b : Int), .int .u64 (c : Int), .int .u64 (d : Int)])
  have B0 := hide_ (below1 w (.cells #[.int .i64 17, .int .i64 p, .int .i64 x, .int .i64 q, .int .i64 y, .int .i64 f, .bool m, .int .u64 (a : Int), .int .u64 (b : Int), .int .u64 (c : Int), .int .u64 (d : Int)] 28))
  subst h
  have qs : Hid (∀ w, Calls Try.prog 14 #[.agg #[.int .i64 17, .int .i64 p, .int .i64 x, .int .i64 q, .int .i64 33024, .int .i64 f, .bool m, .int .u64 (a : Int), .int .u64 (b : Int), .int .u64 (c : Int), .int .u64 (d : Int)], .agg #[.int .i64 17, .int .i64 0, .int .i64 0, .int .i64 0, .int .i64 33024, .int .i64 0, .bool false, .int .u64 0, .int .u64 0, .int .u64 0, .int .u64 0]] w fun e w' => e = .returned (.bool (sameB 17 p x q 33024 f m a b c d 17 0 0 0 33024 0 false 0 0 0 0)) ∧ Below w.heap.size w w') := hide_ (fun w => rasame_any 17 p x q 33024 f m a b c d 17 0 0 0 33024 0 false 0 0 0 0 w)
  generalize sameB 17 p x q 33024 f m a b c d 17 0 0 0 33024 0 false 0 0 0 0 = z at *
  go_enter Try.func10, Try.ntmps10
  go_wp2_with (first  | (go_at_call 14; refine (qs.out _).mono ?_; rintro e w9 ⟨rfl, b9⟩))
  go_ret
  exact ⟨rfl, B0.out.trans (b9.mono B0.out.size)⟩

set_option maxRecDepth 100000 in
set_option maxHeartbeats 4000000 in
theorem rar_17b (p x q y f : Int) (m : Bool) (a b c d : Nat) (w : World) (h : y = 34984) :
    Calls Try.prog 10 #[.agg #[.int .i64 17, .int .i64 p, .int .i64 x, .int .i64 q, .int .i64 y, .int .i64 f, .bool m, .int .u64 (a : Int), .int .u64 (b : Int), .int .u64 (c : Int), .int .u64 (d : Int)]] w fun e w' => e = .returned (.bool (sameB 17 p x q y f m a b c d 17 0 0 0 y 0 false 0 0 0 0)) ∧ Below w.heap.size w w' := by
  have A0 := hide_ (AB.at0 w 28 [.int .i64 17, .int .i64 p, .int .i64 x, .int .i64 q, .int .i64 y, .int .i64 f, .bool m, .int .u64 (a : Int), .int .u64 (b : Int), .int .u64 (c : Int), .int .u64 (d : Int)])
  have B0 := hide_ (below1 w (.cells #[.int .i64 17, .int .i64 p, .int .i64 x, .int .i64 q, .int .i64 y, .int .i64 f, .bool m, .int .u64 (a : Int), .int .u64 (b : Int), .int .u64 (c : Int), .int .u64 (d : Int)] 28))
  subst h
  have qs : Hid (∀ w, Calls Try.prog 14 #[.agg #[.int .i64 17, .int .i64 p, .int .i64 x, .int .i64 q, .int .i64 34984, .int .i64 f, .bool m, .int .u64 (a : Int), .int .u64 (b : Int), .int .u64 (c : Int), .int .u64 (d : Int)], .agg #[.int .i64 17, .int .i64 0, .int .i64 0, .int .i64 0, .int .i64 34984, .int .i64 0, .bool false, .int .u64 0, .int .u64 0, .int .u64 0, .int .u64 0]] w fun e w' => e = .returned (.bool (sameB 17 p x q 34984 f m a b c d 17 0 0 0 34984 0 false 0 0 0 0)) ∧ Below w.heap.size w w') := hide_ (fun w => rasame_any 17 p x q 34984 f m a b c d 17 0 0 0 34984 0 false 0 0 0 0 w)
  generalize sameB 17 p x q 34984 f m a b c d 17 0 0 0 34984 0 false 0 0 0 0 = z at *
  go_enter Try.func10, Try.ntmps10
  go_wp2_with (first  | (go_at_call 14; refine (qs.out _).mono ?_; rintro e w9 ⟨rfl, b9⟩))
  go_ret
  exact ⟨rfl, B0.out.trans (b9.mono B0.out.size)⟩

set_option maxRecDepth 100000 in
set_option maxHeartbeats 4000000 in
theorem rar_17c (p x q y f : Int) (m : Bool) (a b c d : Nat) (w : World) (h : ¬ y = 33024) (h2 : ¬ y = 34984) :
    Calls Try.prog 10 #[.agg #[.int .i64 17, .int .i64 p, .int .i64 x, .int .i64 q, .int .i64 y, .int .i64 f, .bool m, .int .u64 (a : Int), .int .u64 (b : Int), .int .u64 (c : Int), .int .u64 (d : Int)]] w fun e w' => e = .returned (.bool (false)) ∧ Below w.heap.size w w' := by
  have A0 := hide_ (AB.at0 w 28 [.int .i64 17, .int .i64 p, .int .i64 x, .int .i64 q, .int .i64 y, .int .i64 f, .bool m, .int .u64 (a : Int), .int .u64 (b : Int), .int .u64 (c : Int), .int .u64 (d : Int)])
  have B0 := hide_ (below1 w (.cells #[.int .i64 17, .int .i64 p, .int .i64 x, .int .i64 q, .int .i64 y, .int .i64 f, .bool m, .int .u64 (a : Int), .int .u64 (b : Int), .int .u64 (c : Int), .int .u64 (d : Int)] 28))
  have g1 : (y == 33024) = false := by simpa using h
  have g2 : (y == 34984) = false := by simpa using h2
  go_enter Try.func10, Try.ntmps10
  go_wp2_with fail
  go_ret
  exact ⟨rfl, B0.out⟩

set_option maxRecDepth 100000 in
set_option maxHeartbeats 4000000 in
theorem rar_18 (p x q y f : Int) (m : Bool) (a b c d : Nat) (w : World) :
    Calls Try.prog 10 #[.agg #[.int .i64 18, .int .i64 p, .int .i64 x, .int .i64 q, .int .i64 y, .int .i64 f, .bool m, .int .u64 (a : Int), .int .u64 (b : Int), .int .u64 (c : Int), .int .u64 (d : Int)]] w fun e w' => e = .returned (.bool (sameB 18 p x q y f m a b c d 18 0 0 0 0 0 false 0 0 0 0)) ∧ Below w.heap.size w w' := by
  have A0 := hide_ (AB.at0 w 28 [.int .i64 18, .int .i64 p, .int .i64 x, .int .i64 q, .int .i64 y, .int .i64 f, .bool m, .int .u64 (a : Int), .int .u64 (b : Int), .int .u64 (c : Int), .int .u64 (d : Int)])
  have B0 := hide_ (below1 w (.cells #[.int .i64 18, .int .i64 p, .int .i64 x, .int .i64 q, .int .i64 y, .int .i64 f, .bool m, .int .u64 (a : Int), .int .u64 (b : Int), .int .u64 (c : Int), .int .u64 (d : Int)] 28))
  have qs : Hid (∀ w, Calls Try.prog 14 #[.agg #[.int .i64 18, .int .i64 p, .int .i64 x, .int .i64 q, .int .i64 y, .int .i64 f, .bool m, .int .u64 (a : Int), .int .u64 (b : Int), .int .u64 (c : Int), .int .u64 (d : Int)], .agg #[.int .i64 18, .int .i64 0, .int .i64 0, .int .i64 0, .int .i64 0, .int .i64 0, .bool false, .int .u64 0, .int .u64 0, .int .u64 0, .int .u64 0]] w fun e w' => e = .returned (.bool (sameB 18 p x q y f m a b c d 18 0 0 0 0 0 false 0 0 0 0)) ∧ Below w.heap.size w w') := hide_ (fun w => rasame_any 18 p x q y f m a b c d 18 0 0 0 0 0 false 0 0 0 0 w)
  generalize sameB 18 p x q y f m a b c d 18 0 0 0 0 0 false 0 0 0 0 = z at *
  go_enter Try.func10, Try.ntmps10
  go_wp2_with (first  | (go_at_call 14; refine (qs.out _).mono ?_; rintro e w9 ⟨rfl, b9⟩))
  go_ret
  exact ⟨rfl, B0.out.trans (b9.mono B0.out.size)⟩

set_option maxRecDepth 100000 in
set_option maxHeartbeats 4000000 in
theorem rar_25a (p x q y f : Int) (m : Bool) (a b c d : Nat) (w : World) (ha : a < 18446744073709551616) (hb : b < 18446744073709551616) (hc : c < 18446744073709551616) (hd : d < 18446744073709551616) (hr : rgt f m a b c d = false) :
    Calls Try.prog 10 #[.agg #[.int .i64 25, .int .i64 p, .int .i64 x, .int .i64 q, .int .i64 y, .int .i64 f, .bool m, .int .u64 (a : Int), .int .u64 (b : Int), .int .u64 (c : Int), .int .u64 (d : Int)]] w fun e w' => e = .returned (.bool (false)) ∧ Below w.heap.size w w' := by
  have A0 := hide_ (AB.at0 w 28 [.int .i64 25, .int .i64 p, .int .i64 x, .int .i64 q, .int .i64 y, .int .i64 f, .bool m, .int .u64 (a : Int), .int .u64 (b : Int), .int .u64 (c : Int), .int .u64 (d : Int)])
  have B0 := hide_ (below1 w (.cells #[.int .i64 25, .int .i64 p, .int .i64 x, .int .i64 q, .int .i64 y, .int .i64 f, .bool m, .int .u64 (a : Int), .int .u64 (b : Int), .int .u64 (c : Int), .int .u64 (d : Int)] 28))
  have qr := fun w => roright_any f m a b c d w ha hb hc hd
  rw [hr] at qr
  unfold ov at qr
  have qr := hide_ qr
  clear ha hb hc hd
  go_enter Try.func10, Try.ntmps10
  go_wp2_with (go_at_call 29; refine (qr.out _).mono ?_; rintro e w1 ⟨rfl, b1⟩; obtain ⟨yb10, yb11, yb12, yb13, yb14, yb15, yb16, yb17, yb18, yb19, yb110, -⟩ := (A0.out.later b1).eleven)
  go_ret
  exact ⟨rfl, B0.out.trans (b1.mono B0.out.size)⟩

set_option maxRecDepth 100000 in
set_option maxHeartbeats 4000000 in
theorem rar_25b (p x q y f : Int) (m : Bool) (a b c d : Nat) (w : World) (ha : a < 18446744073709551616) (hb : b < 18446744073709551616) (hc : c < 18446744073709551616) (hd : d < 18446744073709551616) (hr : rgt f m a b c d = true) (hm : m = true) :
    Calls Try.prog 10 #[.agg #[.int .i64 25, .int .i64 p, .int .i64 x, .int .i64 q, .int .i64 y, .int .i64 f, .bool m, .int .u64 (a : Int), .int .u64 (b : Int), .int .u64 (c : Int), .int .u64 (d : Int)]] w fun e w' => e = .returned (.bool (false)) ∧ Below w.heap.size w w' := by
  have A0 := hide_ (AB.at0 w 28 [.int .i64 25, .int .i64 p, .int .i64 x, .int .i64 q, .int .i64 y, .int .i64 f, .bool m, .int .u64 (a : Int), .int .u64 (b : Int), .int .u64 (c : Int), .int .u64 (d : Int)])
  have B0 := hide_ (below1 w (.cells #[.int .i64 25, .int .i64 p, .int .i64 x, .int .i64 q, .int .i64 y, .int .i64 f, .bool m, .int .u64 (a : Int), .int .u64 (b : Int), .int .u64 (c : Int), .int .u64 (d : Int)] 28))
  have qr := fun w => roright_any f m a b c d w ha hb hc hd
  rw [hr] at qr
  unfold ov at qr
  have qr := hide_ qr
  clear ha hb hc hd
  subst hm
  go_enter Try.func10, Try.ntmps10
  go_wp2_with (go_at_call 29; refine (qr.out _).mono ?_; rintro e w1 ⟨rfl, b1⟩; obtain ⟨yb10, yb11, yb12, yb13, yb14, yb15, yb16, yb17, yb18, yb19, yb110, -⟩ := (A0.out.later b1).eleven)
  go_ret
  exact ⟨rfl, B0.out.trans (b1.mono B0.out.size)⟩

set_option maxRecDepth 100000 in
set_option maxHeartbeats 4000000 in
theorem rar_25c (p x q y f : Int) (m : Bool) (a b c d : Nat) (w : World) (ha : a < 18446744073709551616) (hb : b < 18446744073709551616) (hc : c < 18446744073709551616) (hd : d < 18446744073709551616) (hr : rgt f m a b c d = true) (hm : m = false) (hs : setsB f = false) :
    Calls Try.prog 10 #[.agg #[.int .i64 25, .int .i64 p, .int .i64 x, .int .i64 q, .int .i64 y, .int .i64 f, .bool m, .int .u64 (a : Int), .int .u64 (b : Int), .int .u64 (c : Int), .int .u64 (d : Int)]] w fun e w' => e = .returned (.bool (false)) ∧ Below w.heap.size w w' := by
  have A0 := hide_ (AB.at0 w 28 [.int .i64 25, .int .i64 p, .int .i64 x, .int .i64 q, .int .i64 y, .int .i64 f, .bool m, .int .u64 (a : Int), .int .u64 (b : Int), .int .u64 (c : Int), .int .u64 (d : Int)])
  have B0 := hide_ (below1 w (.cells #[.int .i64 25, .int .i64 p, .int .i64 x, .int .i64 q, .int .i64 y, .int .i64 f, .bool m, .int .u64 (a : Int), .int .u64 (b : Int), .int .u64 (c : Int), .int .u64 (d : Int)] 28))
  have qr := fun w => roright_any f m a b c d w ha hb hc hd
  rw [hr] at qr
  unfold ov at qr
  have qr := hide_ qr
  clear ha hb hc hd
  have qt := fun w => rasets_any f w
  rw [hs] at qt
  have qt := hide_ qt
  subst hm
  go_enter Try.func10, Try.ntmps10
  go_wp2_with (first | (go_at_call 29; refine (qr.out _).mono ?_; rintro e w1 ⟨rfl, b1⟩; obtain ⟨yb10, yb11, yb12, yb13, yb14, yb15, yb16, yb17, yb18, yb19, yb110, -⟩ := (A0.out.later b1).eleven) | (go_at_call 12; refine (qt.out _).mono ?_; rintro e w' ⟨rfl, rfl⟩))
  go_ret
  exact ⟨rfl, B0.out.trans (b1.mono B0.out.size)⟩

set_option maxRecDepth 100000 in
set_option maxHeartbeats 4000000 in
theorem rar_25d (p x q y f : Int) (m : Bool) (a b c d : Nat) (w : World) (ha : a < 18446744073709551616) (hb : b < 18446744073709551616) (hc : c < 18446744073709551616) (hd : d < 18446744073709551616) (hr : rgt f m a b c d = true) (hm : m = false) (hs : setsB f = true) :
    Calls Try.prog 10 #[.agg #[.int .i64 25, .int .i64 p, .int .i64 x, .int .i64 q, .int .i64 y, .int .i64 f, .bool m, .int .u64 (a : Int), .int .u64 (b : Int), .int .u64 (c : Int), .int .u64 (d : Int)]] w fun e w' => e = .returned (.bool (sameB 25 p x q y f m a b c d 25 0 0 0 0 f m a b c d)) ∧ Below w.heap.size w w' := by
  have A0 := hide_ (AB.at0 w 28 [.int .i64 25, .int .i64 p, .int .i64 x, .int .i64 q, .int .i64 y, .int .i64 f, .bool m, .int .u64 (a : Int), .int .u64 (b : Int), .int .u64 (c : Int), .int .u64 (d : Int)])
  have B0 := hide_ (below1 w (.cells #[.int .i64 25, .int .i64 p, .int .i64 x, .int .i64 q, .int .i64 y, .int .i64 f, .bool m, .int .u64 (a : Int), .int .u64 (b : Int), .int .u64 (c : Int), .int .u64 (d : Int)] 28))
  have qr := fun w => roright_any f m a b c d w ha hb hc hd
  rw [hr] at qr
  unfold ov at qr
  have qr := hide_ qr
  clear ha hb hc hd
  have qt := fun w => rasets_any f w
  rw [hs] at qt
  have qt := hide_ qt
  have qs : Hid (∀ w, Calls Try.prog 14 #[.agg #[.int .i64 25, .int .i64 p, .int .i64 x, .int .i64 q, .int .i64 y, .int .i64 f, .bool m, .int .u64 (a : Int), .int .u64 (b : Int), .int .u64 (c : Int), .int .u64 (d : Int)], .agg #[.int .i64 25, .int .i64 0, .int .i64 0, .int .i64 0, .int .i64 0, .int .i64 f, .bool m, .int .u64 (a : Int), .int .u64 (b : Int), .int .u64 (c : Int), .int .u64 (d : Int)]] w fun e w' => e = .returned (.bool (sameB 25 p x q y f m a b c d 25 0 0 0 0 f m a b c d)) ∧ Below w.heap.size w w') := hide_ (fun w => rasame_any 25 p x q y f m a b c d 25 0 0 0 0 f m a b c d w)
  generalize sameB 25 p x q y f m a b c d 25 0 0 0 0 f m a b c d = z at *
  subst hm
  go_enter Try.func10, Try.ntmps10
  go_wp2_with (first | (go_at_call 29; refine (qr.out _).mono ?_; rintro e w1 ⟨rfl, b1⟩; obtain ⟨yb10, yb11, yb12, yb13, yb14, yb15, yb16, yb17, yb18, yb19, yb110, -⟩ := (A0.out.later b1).eleven) | (go_at_call 12; refine (qt.out _).mono ?_; rintro e w' ⟨rfl, rfl⟩) | (go_at_call 14; refine (qs.out _).mono ?_; rintro e w9 ⟨rfl, b9⟩))
  go_ret
  exact ⟨rfl, B0.out.trans ((b1.trans (b9.mono b1.size)).mono B0.out.size)⟩

set_option maxRecDepth 100000 in
set_option maxHeartbeats 4000000 in
theorem rar_z (k p x q y f : Int) (m : Bool) (a b c d : Nat) (w : World) (h0 : k ≠ 0) (h22 : k ≠ 22) (h17 : k ≠ 17) (h18 : k ≠ 18) (h25 : k ≠ 25) :
    Calls Try.prog 10 #[.agg #[.int .i64 k, .int .i64 p, .int .i64 x, .int .i64 q, .int .i64 y, .int .i64 f, .bool m, .int .u64 (a : Int), .int .u64 (b : Int), .int .u64 (c : Int), .int .u64 (d : Int)]] w fun e w' => e = .returned (.bool (false)) ∧ Below w.heap.size w w' := by
  have A0 := hide_ (AB.at0 w 28 [.int .i64 k, .int .i64 p, .int .i64 x, .int .i64 q, .int .i64 y, .int .i64 f, .bool m, .int .u64 (a : Int), .int .u64 (b : Int), .int .u64 (c : Int), .int .u64 (d : Int)])
  have B0 := hide_ (below1 w (.cells #[.int .i64 k, .int .i64 p, .int .i64 x, .int .i64 q, .int .i64 y, .int .i64 f, .bool m, .int .u64 (a : Int), .int .u64 (b : Int), .int .u64 (c : Int), .int .u64 (d : Int)] 28))
  go_enter Try.func10, Try.ntmps10
  go_wp2_with fail
  go_ret
  exact ⟨rfl, B0.out⟩
end

section
open Go Go.RowKit
set_option linter.unusedVariables false
set_option linter.unusedSimpArgs false

theorem raright_any (k p x q y f : Int) (m : Bool) (a b c d : Nat) (w : World) (ha : a < 18446744073709551616) (hb : b < 18446744073709551616) (hc : c < 18446744073709551616) (hd : d < 18446744073709551616) :
    Calls Try.prog 10 #[av k p x q y f m a b c d] w fun e w' => e = .returned (.bool (art k p x q y f m a b c d)) ∧ Below w.heap.size w w' := by
  have cg : ∀ z z' : Bool, z = z' → ∀ w, (Calls Try.prog 10 #[av k p x q y f m a b c d] w fun e w' => e = .returned (.bool z) ∧ Below w.heap.size w w') → (Calls Try.prog 10 #[av k p x q y f m a b c d] w fun e w' => e = .returned (.bool z') ∧ Below w.heap.size w w') := fun z z' h w k => h ▸ k
  by_cases h0 : k = 0
  · subst h0
    cases hg : goB p
    · exact cg _ _ (by simp [art, achk, hg]) w (rar_0a p x q y f m a b c d w hg)
    · cases hm : tkB p x
      · exact cg _ _ (by simp [art, achk, hg, hm]) w (rar_0b p x q y f m a b c d w hg hm)
      · exact cg _ _ (by simp [art, achk, ownE, oz, sameB, hg, hm]) w (rar_0c p x q y f m a b c d w hg hm)
  by_cases h22 : k = 22
  · subst h22
    by_cases h : 0 ≤ q
    · by_cases h2 : q ≤ 4294967040
      · exact cg _ _ (by simp [art, achk, ownE, oz, sameB, h, h2]) w (rar_22c p x q y f m a b c d w h h2)
      · exact cg _ _ (by simp [art, achk, h, h2]) w (rar_22b p x q y f m a b c d w h h2)
    · exact cg _ _ (by simp [art, achk, h]) w (rar_22a p x q y f m a b c d w h)
  by_cases h17 : k = 17
  · subst h17
    by_cases h : y = 33024
    · exact cg _ _ (by simp [art, achk, ownE, oz, sameB, h]) w (rar_17a p x q y f m a b c d w h)
    · by_cases h2 : y = 34984
      · exact cg _ _ (by simp [art, achk, ownE, oz, sameB, h2]) w (rar_17b p x q y f m a b c d w h2)
      · exact cg _ _ (by simp [art, achk, h, h2]) w (rar_17c p x q y f m a b c d w h h2)
  by_cases h18 : k = 18
  · subst h18
    exact cg _ _ (by simp [art, achk, ownE, oz, sameB]) w (rar_18 p x q y f m a b c d w)
  by_cases h25 : k = 25
  · subst h25
    cases hr : rgt f m a b c d
    · exact cg _ _ (by simp [art, hr]) w (rar_25a p x q y f m a b c d w ha hb hc hd hr)
    · cases hm : m
      · subst hm
        cases hs : setsB f
        · exact cg _ _ (by simp [art, achk, hs]) w (rar_25c p x q y f false a b c d w ha hb hc hd hr rfl hs)
        · exact cg _ _ (by simp [art, achk, ownE, sameB, hs, hr]) w (rar_25d p x q y f false a b c d w ha hb hc hd hr rfl hs)
      · subst hm
        exact cg _ _ (by cases hs : setsB f <;> simp [art, achk, hs]) w (rar_25b p x q y f true a b c d w ha hb hc hd hr rfl)
  · exact cg _ _ (by simp [art, achk, h0, h22, h17, h18, h25]) w (rar_z k p x q y f m a b c d w h0 h22 h17 h18 h25)
end

end Go.Proofs.Ytpopjgplbhnbnaa
