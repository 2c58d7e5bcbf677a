import Derived.Test.YthhijfphfcmniaaGreatAae
import Derived.Test.YthhijfphfcmniaaGreatOee
import Derived.Test.YthhijfphfcmniaaGreatOfe
import Derived.Deep.RegionHeld3
import Derived.Deep.RegionWith
import Derived.Deep.MidRow
import Derived.Deep.Cut
set_option maxRecDepth 100000
set_option maxHeartbeats 8000000
set_option linter.unusedVariables false
set_option linter.unusedSimpArgs false
namespace Go.Proofs.YthhijfphfcmniaaGreat
open Go Go.RowKit
def sameB (k p x q y f : Int) (m : Bool) (a b c d : Nat) (k2 p2 x2 q2 y2 f2 : Int) (m2 : Bool) (a2 b2 c2 d2 : Nat) : Bool := decide (k = k2) && (decide (p = p2) && (decide (x = x2) && (decide (q = q2) && (decide (y = y2) && decide ((f, m, a, b, c, d) = (f2, m2, a2, b2, c2, d2))))))
theorem run_aeq (k p x q y f : Int) (m : Bool) (a b c d : Nat) (k2 p2 x2 q2 y2 f2 : Int) (m2 : Bool) (a2 b2 c2 d2 : Nat) (w : World) :
    (Op.equalIn 10000 61 (.agg #[.int .i64 k, .int .i64 p, .int .i64 x, .int .i64 q, .int .i64 y, .int .i64 f, .bool m, .int .u64 (a : Int), .int .u64 (b : Int), .int .u64 (c : Int), .int .u64 (d : Int)]) (.agg #[.int .i64 k2, .int .i64 p2, .int .i64 x2, .int .i64 q2, .int .i64 y2, .int .i64 f2, .bool m2, .int .u64 (a2 : Int), .int .u64 (b2 : Int), .int .u64 (c2 : Int), .int .u64 (d2 : Int)])).run Tryz.prog w = .ok (sameB k p x q y f m a b c d k2 p2 x2 q2 y2 f2 m2 a2 b2 c2 d2) w := by
  go_simp
  unfold sameB
  repeat' split
  all_goals (first | (simp_all; done) | (simp_all; omega))
theorem asame_any (k p x q y f : Int) (m : Bool) (a b c d : Nat) (k2 p2 x2 q2 y2 f2 : Int) (m2 : Bool) (a2 b2 c2 d2 : Nat) (w : World) :
    Calls Tryz.prog 114 #[av k p x q y f m a b c d, av k2 p2 x2 q2 y2 f2 m2 a2 b2 c2 d2] w fun e w' => e = .returned (.bool (sameB k p x q y f m a b c d k2 p2 x2 q2 y2 f2 m2 a2 b2 c2 d2)) ∧ Below w.heap.size w w' := by
  have heq := fun w => run_aeq k p x q y f m a b c d k2 p2 x2 q2 y2 f2 m2 a2 b2 c2 d2 w
  have B0 := h_ (below2 w (.cells #[.int .i64 k, .int .i64 p, .int .i64 x, .int .i64 q, .int .i64 y, .int .i64 f, .bool m, .int .u64 (a : Int), .int .u64 (b : Int), .int .u64 (c : Int), .int .u64 (d : Int)] 61) (.cells #[.int .i64 k2, .int .i64 p2, .int .i64 x2, .int .i64 q2, .int .i64 y2, .int .i64 f2, .bool m2, .int .u64 (a2 : Int), .int .u64 (b2 : Int), .int .u64 (c2 : Int), .int .u64 (d2 : Int)] 61))
  generalize sameB k p x q y f m a b c d k2 p2 x2 q2 y2 f2 m2 a2 b2 c2 d2 = z at *
  unfold av
  go_enter Tryz.func114, Tryz.ntmps114
  go_wp2_with fail
  go_ret
  exact ⟨rfl, B0.out⟩
theorem rasame_any (k p x q y f : Int) (m : Bool) (a b c d : Nat) (k2 p2 x2 q2 y2 f2 : Int) (m2 : Bool) (a2 b2 c2 d2 : Nat) (w : World) :
    Calls Tryz.prog 112 #[av k p x q y f m a b c d, av k2 p2 x2 q2 y2 f2 m2 a2 b2 c2 d2] w fun e w' => e = .returned (.bool (sameB k p x q y f m a b c d k2 p2 x2 q2 y2 f2 m2 a2 b2 c2 d2)) ∧ Below w.heap.size w w' := by
  have qs := h_ (fun w => rosame_any f m a b c d f2 m2 a2 b2 c2 d2 w)
  have B0 := h_ (below2 w (.cells #[.int .i64 k, .int .i64 p, .int .i64 x, .int .i64 q, .int .i64 y, .int .i64 f, .bool m, .int .u64 (a : Int), .int .u64 (b : Int), .int .u64 (c : Int), .int .u64 (d : Int)] 61) (.cells #[.int .i64 k2, .int .i64 p2, .int .i64 x2, .int .i64 q2, .int .i64 y2, .int .i64 f2, .bool m2, .int .u64 (a2 : Int), .int .u64 (b2 : Int), .int .u64 (c2 : Int), .int .u64 (d2 : Int)] 61))
  unfold ov at qs
  unfold av
  by_cases ek : k = k2
  · subst ek
    by_cases ep : p = p2
    · subst ep
      by_cases ex : x = x2
      · subst ex
        by_cases eq : q = q2
        · subst eq
          by_cases ey : y = y2
          · subst ey
            go_enter Tryz.func112, Tryz.ntmps112
            go_wp2_with (go_at_call 136; refine (qs.out _).mono ?_; rintro e w1 ⟨rfl, b1⟩)
            go_ret
            exact ⟨by simp [sameB], B0.out.trans (b1.mono B0.out.size)⟩
          · have gy : (y == y2) = false := by simpa using ey
            go_enter Tryz.func112, Tryz.ntmps112
            go_wp2_with fail
            go_ret
            exact ⟨by simp [sameB, ey], B0.out⟩
        · have gq : (q == q2) = false := by simpa using eq
          go_enter Tryz.func112, Tryz.ntmps112
          go_wp2_with fail
          go_ret
          exact ⟨by simp [sameB, eq], B0.out⟩
      · have gx : (x == x2) = false := by simpa using ex
        go_enter Tryz.func112, Tryz.ntmps112
        go_wp2_with fail
        go_ret
        exact ⟨by simp [sameB, ex], B0.out⟩
    · have gp : (p == p2) = false := by simpa using ep
      go_enter Tryz.func112, Tryz.ntmps112
      go_wp2_with fail
      go_ret
      exact ⟨by simp [sameB, ep], B0.out⟩
  · have gk : (k == k2) = false := by simpa using ek
    go_enter Tryz.func112, Tryz.ntmps112
    go_wp2_with fail
    go_ret
    exact ⟨by simp [sameB, ek], B0.out⟩
theorem rmost_any (k p x q y f : Int) (m : Bool) (a b c d : Nat) (w : World) :
    Calls Tryz.prog 131 #[av k p x q y f m a b c d] w fun e w' => e = .returned (.bool (tkB p x)) ∧ Below w.heap.size w w' := by
  have B0 := h_ (below1 w (.cells #[.int .i64 k, .int .i64 p, .int .i64 x, .int .i64 q, .int .i64 y, .int .i64 f, .bool m, .int .u64 (a : Int), .int .u64 (b : Int), .int .u64 (c : Int), .int .u64 (d : Int)] 61))
  unfold av
  by_cases h0 : x = 0
  · subst h0
    go_enter Tryz.func131, Tryz.ntmps131
    go_wp2_with fail
    go_ret
    exact ⟨congrArg (fun z => Ending.returned (Value.bool z)) (by rw [Bool.eq_iff_iff]; simp [tkB]), B0.out⟩
  · have g0 : (x == 0) = false := by simpa using h0
    by_cases h1 : p = 4294967293
    · subst h1
      by_cases h2 : 0 < x
      · go_enter Tryz.func131, Tryz.ntmps131
        go_wp2_with fail
        go_ret
        exact ⟨congrArg (fun z => Ending.returned (Value.bool z)) (by rw [Bool.eq_iff_iff]; simp [tkB]; omega), B0.out⟩
      · go_enter Tryz.func131, Tryz.ntmps131
        go_wp2_with fail
        go_ret
        exact ⟨congrArg (fun z => Ending.returned (Value.bool z)) (by rw [Bool.eq_iff_iff]; simp [tkB]; omega), B0.out⟩
    · have g1 : (p == 4294967293) = false := by simpa using h1
      go_enter Tryz.func131, Tryz.ntmps131
      go_wp2_with fail
      go_ret
      exact ⟨congrArg (fun z => Ending.returned (Value.bool z)) (by rw [Bool.eq_iff_iff]; simp [tkB, h0, h1]), B0.out⟩
end Go.Proofs.YthhijfphfcmniaaGreat
