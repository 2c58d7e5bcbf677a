import Derived.Test.YtabefajdpefbiaaOwa
import Derived.Test.YtabefajdpefbiaaOwb
import Derived.Test.YtabefajdpefbiaaOwc
import Derived.Test.YtabefajdpefbiaaOwd
import Derived.Test.YtabefajdpefbiaaOwe
import Derived.Deep.RegionHeld3
import Derived.Deep.RegionWith
import Derived.Deep.MidRow
import Derived.Deep.Cut
namespace Go.Proofs.Ytabefajdpefbiaa
open Go Go.RowKit
set_option linter.unusedVariables false
set_option linter.unusedSimpArgs false

theorem tb_andn' (a c : Nat) (hc : c < 18446744073709551616) (i : Nat) : (andn a c).testBit i = (a.testBit i && (decide (i < 64) && !c.testBit i)) := by
  unfold andn
  rw [Nat.testBit_and]
  have e : 18446744073709551615 - c = 2 ^ 64 - (c + 1) := by
    have : (2 : Nat) ^ 64 = 18446744073709551616 := by decide
    omega
  rw [e, Nat.testBit_two_pow_sub_succ (by have : (2 : Nat) ^ 64 = 18446744073709551616 := by decide
                                          omega)]
theorem rgt_wi {f : Int} {a b c d : Nat} (h : rgt f true a b c d = true) : andn a c = 0 ∧ andn b d = 0 := by
  have hk : chk f true a b c d = 0 := by
    unfold rgt at h
    simp only [Bool.and_eq_true, decide_eq_true_eq] at h
    exact h.2.1
  have : wi a b c d = true := by
    unfold chk at hk
    revert hk
    cases wi a b (LH f) (LL f) <;> cases wi c d (LH f) (LL f) <;> cases zz c d <;> cases wi a b c d <;> simp
  unfold wi at this
  simpa using this
theorem and_of_less (v m : Nat) (hv : v < 18446744073709551616) (hm : m < 18446744073709551616) (h : andn v m = 0) : v &&& m = v := by
  apply Nat.eq_of_testBit_eq
  intro i
  have := congrArg (fun n => Nat.testBit n i) h
  simp only [tb_andn' v m hm i, Nat.zero_testBit] at this
  rw [Nat.testBit_and]
  by_cases hi : i < 64
  · revert this
    cases v.testBit i <;> cases m.testBit i <;> simp [hi]
  · have hz : v.testBit i = false := by
      apply Nat.testBit_lt_two_pow
      have h1 : (2 : Nat) ^ 64 ≤ 2 ^ i := Nat.pow_le_pow_right (by decide) (by omega)
      have h2 : (2 : Nat) ^ 64 = 18446744073709551616 := by decide
      omega
    rw [hz]; simp

set_option maxRecDepth 100000 in
set_option maxHeartbeats 8000000 in
theorem oxmCounts_walk (f : Int) (m : Bool) (a b c d x y : Nat) (w : World) (ha : a < 18446744073709551616) (hb : b < 18446744073709551616) (hc : c < 18446744073709551616) (hd : d < 18446744073709551616) (hx : x < 18446744073709551616) (hy : y < 18446744073709551616) :
    Calls Try.prog 6 #[ov f m a b c d, wd x y] w fun e w' => e = .returned (.bool true) ∧ Below w.heap.size w w' := by
  have q1 := fun w => oright_any f m a b c d w ha hb hc hd
  have q2 := fun w => otern_any f m a b c d w
  have aw := hide_ (fun w => awake10_any w)
  cases hr : rgt f m a b c d
  · rw [hr] at q1
    have q1 := hide_ q1
    have A0 := hide_ ((AB.at0 w 26 [.int .i64 f, .bool m, .int .u64 (a : Int), .int .u64 (b : Int), .int .u64 (c : Int), .int .u64 (d : Int)]).alloc (.cells #[.int .u64 (x : Int), .int .u64 (y : Int)] 24))
    have B0 := hide_ (below2 w (.cells #[.int .i64 f, .bool m, .int .u64 (a : Int), .int .u64 (b : Int), .int .u64 (c : Int), .int .u64 (d : Int)] 26) (.cells #[.int .u64 (x : Int), .int .u64 (y : Int)] 24))
    obtain ⟨c0, c1, c2, c3, c4, c5, -⟩ := A0.out.six
    clear ha hb hc hd hx hy q2
    unfold ov wd at *
    go_enter Try.func6, Try.ntmps6
    go_wp2_with (first | (go_at_call 10; refine (q1.out _).mono ?_; rintro e w1 ⟨rfl, k1⟩) | (go_at_call 16; refine (aw.out _).mono ?_; rintro e w2 ⟨rfl, b2⟩))
    go_ret
    exact ⟨rfl, B0.out.trans ((k1.trans (b2.mono k1.size)).mono B0.out.size)⟩
  · rw [hr] at q1
    have q1 := hide_ q1
    have hf := rgt_fok hr
    rw [hf] at q2
    cases m
    · dsimp only at q2
      have h1 := LH_lt f
      have h2 := LL_lt f
      generalize LH f = p at *
      generalize LL f = q at *
      have q2 := hide_ q2
      have q3 := fun w => and_any x y p q w hx hy h1 h2
      have q4 := fun w => less_any x y p q w hx hy h1 h2
      have rel : andn x p = 0 → andn y q = 0 → x &&& p = x ∧ y &&& q = y := fun e1 e2 => ⟨and_of_less x p hx h1 e1, and_of_less y q hy h2 e2⟩
      generalize x &&& p = r1 at *
      generalize y &&& q = r2 at *
      generalize andn x p = u1 at *
      generalize andn y q = u2 at *
      clear ha hb hc hd hx hy h1 h2 hr hf aw
      by_cases e1 : a = r1
      · by_cases e2 : b = r2
        · subst e1 e2
          by_cases e3 : u1 = 0
          · by_cases e4 : u2 = 0
            · obtain ⟨f1, f2⟩ := rel e3 e4
              subst e3 e4
              exact cntA f a b c d p q x y w q1.out q2.out q3 q4 (by simp [f1]) (by simp [f2])
            · subst e3
              exact cntB f a b c d p q x y u2 w q1.out q2.out q3 q4 (by simpa using e4)
          · exact cntC f a b c d p q x y u1 u2 w q1.out q2.out q3 q4 (by simpa using e3)
        · subst e1
          exact cntD f a b c d p q x y r2 w q1.out q2.out q3 (by simp; omega)
      · exact cntE f a b c d p q x y r1 r2 w q1.out q2.out q3 (by simp; omega)
    · dsimp only at q2
      have q2 := hide_ q2
      obtain ⟨e1, e2⟩ := rgt_wi hr
      have q4 := fun w => less_any a b c d w ha hb hc hd
      rw [e1, e2] at q4
      have A0 := hide_ ((AB.at0 w 26 [.int .i64 f, .bool true, .int .u64 (a : Int), .int .u64 (b : Int), .int .u64 (c : Int), .int .u64 (d : Int)]).alloc (.cells #[.int .u64 (x : Int), .int .u64 (y : Int)] 24))
      have B0 := hide_ (below2 w (.cells #[.int .i64 f, .bool true, .int .u64 (a : Int), .int .u64 (b : Int), .int .u64 (c : Int), .int .u64 (d : Int)] 26) (.cells #[.int .u64 (x : Int), .int .u64 (y : Int)] 24))
      obtain ⟨c0, c1, c2, c3, c4, c5, -⟩ := A0.out.six
      clear ha hb hc hd hx hy hr hf e1 e2
      unfold ov td wd at *
      have q4 : Hid (∀ w, Calls Try.prog 20 #[.agg #[.int .u64 (a : Int), .int .u64 (b : Int)], .agg #[.int .u64 (c : Int), .int .u64 (d : Int)]] w fun e w' => e = .returned (.agg #[.int .u64 0, .int .u64 0]) ∧ Below w.heap.size w w') := hide_ q4
      go_enter Try.func6, Try.ntmps6
      go_wp2_with (first | (go_at_call 10; refine (q1.out _).mono ?_; rintro e w1 ⟨rfl, k1⟩; obtain ⟨b0, b1', b2, b3, b4, b5, -⟩ := (A0.out.later k1).six) | (go_at_call 12; refine (q2.out _).mono ?_; rintro e w2 ⟨rfl, b2'⟩; have k2 := k1.trans (b2'.mono k1.size); have j2 := k2.trans ((below1 w2 (.cells #[.int .u64 (a : Int), .int .u64 (b : Int), .int .u64 (c : Int), .int .u64 (d : Int)] 34)).mono k2.size); obtain ⟨d0, d1, d2, d3, d4, d5, -⟩ := (A0.out.later j2).six; obtain ⟨t0, t1, t2, t3, -⟩ := (AB.at0 w2 34 [.int .u64 (a : Int), .int .u64 (b : Int), .int .u64 (c : Int), .int .u64 (d : Int)]).four) | (go_at_call 20; refine (q4.out _).mono ?_; rintro e w3 ⟨rfl, b3'⟩; have k3 := j2.trans (b3'.mono j2.size)) | (go_at_call 16; refine (aw.out _).mono ?_; rintro e w4 ⟨rfl, b4'⟩))
      go_ret
      exact ⟨rfl, B0.out.trans ((k3.trans (b4'.mono k3.size)).mono B0.out.size)⟩


end Go.Proofs.Ytabefajdpefbiaa
