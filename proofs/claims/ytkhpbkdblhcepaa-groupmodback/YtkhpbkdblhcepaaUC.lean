import Derived.Test.YtkhpbkdblhcepaaUB
import Derived.Test.YtkhpbkdblhcepaaJH
import Derived.Test.YtkhpbkdblhcepaaKN
import Derived.Deep.RegionHeld3
import Derived.Deep.RegionWith
import Derived.Deep.MidRow
import Derived.Deep.Cut
namespace Go.Proofs.Ytkhpbkdblhcepaa
open Go Go.RowKit
set_option linter.unusedVariables false
set_option linter.unusedSimpArgs false

set_option maxRecDepth 100000 in
set_option maxHeartbeats 8000000 in
theorem gb_dark (c k i : Int) (su : Option Addr) (n cu : Nat) (ao : Option Addr) (cap m : Nat) (w : World) (hm : m ≤ 9223372036854775807) (hz : 70000 < m) (hp : Calls Try.prog 28 #[.slice su n cu, .int .i64 110] (w.alloc (.cells #[.int .i64 c, .int .i64 k, .int .i64 i, .slice su n cu] 55)) fun e w' => IsBoolE e ∧ Below (w.alloc (.cells #[.int .i64 c, .int .i64 k, .int .i64 i, .slice su n cu] 55)).heap.size (w.alloc (.cells #[.int .i64 c, .int .i64 k, .int .i64 i, .slice su n cu] 55)) w') :
    Calls Try.prog 7 #[.agg #[.int .i64 c, .int .i64 k, .int .i64 i, .slice su n cu], .slice ao m cap] w fun e w' => e = .returned (.bool true) ∧ Below w.heap.size w w' := by
  have A0 := hide_ (AB.at0 w 55 [.int .i64 c, .int .i64 k, .int .i64 i, .slice su n cu])
  have B0 := hide_ (below1 w (.cells #[.int .i64 c, .int .i64 k, .int .i64 i, .slice su n cu] 55))
  obtain ⟨x0, x1, x2, x3, -⟩ := A0.out.k4
  have hp := hide_ hp
  have g1 : (70000 : Int) < (m : Int) := by omega
  go_enter Try.func7, Try.ntmps7
  go_wp2_with (first | (go_at_call 28; refine hp.out.mono ?_; rintro e w0 ⟨hz0, b0⟩; obtain ⟨z0, rfl⟩ := hz0; have k0 := hide_ (B0.out.trans (b0.mono B0.out.size)); have A1 := hide_ (A0.out.later b0); obtain ⟨x0, x1, x2, x3, -⟩ := A1.out.k4; clear b0; cases z0) | (go_at_call 29; refine (awake18_any _).mono ?_; rintro e w9 ⟨rfl, b9⟩))
  all_goals
    go_ret
    exact ⟨rfl, k0.out.trans (b9.mono k0.out.size)⟩

set_option maxRecDepth 100000 in
set_option maxHeartbeats 8000000 in
theorem gb_yo (c k i : Int) (su : Option Addr) (n cu : Nat) (ao : Option Addr) (cap m : Nat) (w : World) (L : List BK) (B l : List Int) (nB nL : Nat) (K : List BK) (c4 k4 i4 : Int) (nK : Nat) (hm : m ≤ 70000) (hp : Calls Try.prog 28 #[.slice su n cu, .int .i64 110] (w.alloc (.cells #[.int .i64 c, .int .i64 k, .int .i64 i, .slice su n cu] 55)) fun e w' => IsBoolE e ∧ Below (w.alloc (.cells #[.int .i64 c, .int .i64 k, .int .i64 i, .slice su n cu] 55)).heap.size (w.alloc (.cells #[.int .i64 c, .int .i64 k, .int .i64 i, .slice su n cu] 55)) w')
    (q1 : ∀ W, Below w.heap.size w W → Calls Try.prog 30 #[.agg #[.int .i64 c, .int .i64 k, .int .i64 i, .slice su n cu]] W fun e w' => ∃ ra rc, e = .returned (.tuple #[.slice ra nB rc, .int .i64 0]) ∧ Bytes w' (.slice ra nB rc) B ∧ Below W.heap.size W w')
    (q2 : ∀ v W, Bytes W v B → Calls Try.prog 31 #[v] W fun e w' => (∃ ka kc, e = .returned (.tuple #[.agg #[.int .i64 c, .int .i64 k, .int .i64 i, .slice ka nL kc], .agg #[.bool false, .int .i64 0, .int .i64 0]]) ∧ BuckAt w' (.slice ka nL kc) L) ∧ Below W.heap.size W w')
    (q3 : ∀ ka kc W, BuckAt W (.slice ka nL kc) L → Below w.heap.size w W → Calls Try.prog 32 #[.agg #[.int .i64 c, .int .i64 k, .int .i64 i, .slice su n cu], .agg #[.int .i64 c, .int .i64 k, .int .i64 i, .slice ka nL kc]] W fun e w' => e = .returned (.bool true) ∧ Below W.heap.size W w')
    (q4 : ∀ W, Below w.heap.size w W → Calls Try.prog 31 #[.slice ao m cap] W fun e w' => (∃ ka4 kc4, e = .returned (.tuple #[.agg #[.int .i64 c4, .int .i64 k4, .int .i64 i4, .slice ka4 nK kc4], .agg #[.bool false, .int .i64 0, .int .i64 0]]) ∧ BuckAt w' (.slice ka4 nK kc4) K) ∧ Below W.heap.size W w')
    (q5 : ∀ ka4 kc4 W, BuckAt W (.slice ka4 nK kc4) K → Calls Try.prog 30 #[.agg #[.int .i64 c4, .int .i64 k4, .int .i64 i4, .slice ka4 nK kc4]] W fun e w' => ∃ ra rc, e = .returned (.tuple #[.slice ra m rc, .int .i64 0]) ∧ Bytes w' (.slice ra m rc) l ∧ Below W.heap.size W w')
    (q6 : ∀ v W, Bytes W v l → Below w.heap.size w W → Calls Try.prog 11 #[v, .slice ao m cap] W fun e w' => e = .returned (.bool true) ∧ Below W.heap.size W w') :
    Calls Try.prog 7 #[.agg #[.int .i64 c, .int .i64 k, .int .i64 i, .slice su n cu], .slice ao m cap] w fun e w' => e = .returned (.bool true) ∧ Below w.heap.size w w' := by
  have A0 := hide_ (AB.at0 w 55 [.int .i64 c, .int .i64 k, .int .i64 i, .slice su n cu])
  have B0 := hide_ (below1 w (.cells #[.int .i64 c, .int .i64 k, .int .i64 i, .slice su n cu] 55))
  obtain ⟨x0, x1, x2, x3, -⟩ := A0.out.k4
  have hp := hide_ hp
  have q1 := hide_ q1
  have q2 := hide_ q2
  have q3 := hide_ q3
  have q4 := hide_ q4
  have q5 := hide_ q5
  have q6 := hide_ q6
  have g1 : ¬ (70000 : Int) < (m : Int) := by omega
  go_enter Try.func7, Try.ntmps7
  go_wp2_with (first | (go_at_call 28; refine hp.out.mono ?_; rintro e w0 ⟨hz0, b0⟩; obtain ⟨z0, rfl⟩ := hz0; have k0 := hide_ (B0.out.trans (b0.mono B0.out.size)); have A1 := hide_ (A0.out.later b0); obtain ⟨x0, x1, x2, x3, -⟩ := A1.out.k4; clear b0; cases z0) | (go_at_call_of 30 (Value.agg #[.int .i64 c, .int .i64 k, .int .i64 i, .slice su n cu]); refine (q1.out _ k0.out).mono ?_; rintro e w1 ⟨ra, rc, rfl, h1, b1⟩; have k1 := hide_ (k0.out.trans (b1.mono k0.out.size)); have h1 := hide_ h1; have A2 := hide_ (A1.out.later b1); obtain ⟨x0, x1, x2, x3, -⟩ := A2.out.k4; clear b1) | (go_at_call_of 31 (Value.slice ra nB rc); refine (q2.out _ _ h1.out).mono ?_; rintro e w2 ⟨⟨ka, kc, rfl, h2⟩, b2⟩; have j2 := b2.trans ((below2 w2 (.cells #[.int .i64 c, .int .i64 k, .int .i64 i, .slice ka nL kc] 55) (.cells #[.bool false, .int .i64 0, .int .i64 0] 34)).mono b2.size); have k2 := hide_ (k1.out.trans (j2.mono k1.out.size)); have H2 := hide_ (h2.later (below2 w2 (.cells #[.int .i64 c, .int .i64 k, .int .i64 i, .slice ka nL kc] 55) (.cells #[.bool false, .int .i64 0, .int .i64 0] 34))); have A3 := hide_ (A2.out.later j2); obtain ⟨x0, x1, x2, x3, -⟩ := A3.out.k4; obtain ⟨y0, y1, y2, y3, -⟩ := ((AB.at0 w2 55 [.int .i64 c, .int .i64 k, .int .i64 i, .slice ka nL kc]).alloc (.cells #[.bool false, .int .i64 0, .int .i64 0] 34)).k4; obtain ⟨f0, f1, f2, -⟩ := (AB.at1 w2 (.cells #[.int .i64 c, .int .i64 k, .int .i64 i, .slice ka nL kc] 55) 34 [.bool false, .int .i64 0, .int .i64 0]).three; clear b2 j2 h2) | (go_at_call_of 32 (Value.agg #[.int .i64 c, .int .i64 k, .int .i64 i, .slice su n cu]); refine (q3.out _ _ _ H2.out k2.out).mono ?_; rintro e w3 ⟨rfl, b3⟩; have k3 := hide_ (k2.out.trans (b3.mono k2.out.size)); clear b3) | (go_at_call_of 31 (Value.slice ao m cap); refine (q4.out _ k3.out).mono ?_; rintro e w4 ⟨⟨ka4, kc4, rfl, h4⟩, b4⟩; have j4 := b4.trans ((below2 w4 (.cells #[.int .i64 c4, .int .i64 k4, .int .i64 i4, .slice ka4 nK kc4] 55) (.cells #[.bool false, .int .i64 0, .int .i64 0] 34)).mono b4.size); have k4' := hide_ (k3.out.trans (j4.mono k3.out.size)); have H4 := hide_ (h4.later (below2 w4 (.cells #[.int .i64 c4, .int .i64 k4, .int .i64 i4, .slice ka4 nK kc4] 55) (.cells #[.bool false, .int .i64 0, .int .i64 0] 34))); obtain ⟨y0, y1, y2, y3, -⟩ := ((AB.at0 w4 55 [.int .i64 c4, .int .i64 k4, .int .i64 i4, .slice ka4 nK kc4]).alloc (.cells #[.bool false, .int .i64 0, .int .i64 0] 34)).k4; obtain ⟨f0, f1, f2, -⟩ := (AB.at1 w4 (.cells #[.int .i64 c4, .int .i64 k4, .int .i64 i4, .slice ka4 nK kc4] 55) 34 [.bool false, .int .i64 0, .int .i64 0]).three; clear b4 j4 h4) | (go_at_call_of 30 (Value.agg #[.int .i64 c4, .int .i64 k4, .int .i64 i4, .slice ka4 nK kc4]); refine (q5.out _ _ _ H4.out).mono ?_; rintro e w5 ⟨ra5, rc5, rfl, h5, b5⟩; have k5 := hide_ (k4'.out.trans (b5.mono k4'.out.size)); have h5 := hide_ h5; clear b5) | (go_at_call 11; refine (q6.out _ _ h5.out k5.out).mono ?_; rintro e w6 ⟨rfl, b6⟩; have k6 := hide_ (k5.out.trans (b6.mono k5.out.size)); clear b6) | (go_at_call 29; refine (awake18_any _).mono ?_; rintro e w9 ⟨rfl, b9⟩))
  · go_ret
    exact ⟨rfl, k0.out.trans (b9.mono k0.out.size)⟩
  · go_ret
    exact ⟨rfl, k6.out.trans (b9.mono k6.out.size)⟩

end Go.Proofs.Ytkhpbkdblhcepaa

namespace Go.Proofs.Ytkhpbkdblhcepaa
open Go Go.RowKit
set_option linter.unusedVariables false
set_option linter.unusedSimpArgs false

set_option maxRecDepth 100000 in
set_option maxHeartbeats 8000000 in
theorem gb_yb (c k i : Int) (su : Option Addr) (n cu : Nat) (ao : Option Addr) (cap m : Nat) (w : World) (L : List BK) (B l : List Int) (nB nL : Nat) (t d : Int) (hm : m ≤ 70000) (hp : Calls Try.prog 28 #[.slice su n cu, .int .i64 110] (w.alloc (.cells #[.int .i64 c, .int .i64 k, .int .i64 i, .slice su n cu] 55)) fun e w' => IsBoolE e ∧ Below (w.alloc (.cells #[.int .i64 c, .int .i64 k, .int .i64 i, .slice su n cu] 55)).heap.size (w.alloc (.cells #[.int .i64 c, .int .i64 k, .int .i64 i, .slice su n cu] 55)) w')
    (q1 : ∀ W, Below w.heap.size w W → Calls Try.prog 30 #[.agg #[.int .i64 c, .int .i64 k, .int .i64 i, .slice su n cu]] W fun e w' => ∃ ra rc, e = .returned (.tuple #[.slice ra nB rc, .int .i64 0]) ∧ Bytes w' (.slice ra nB rc) B ∧ Below W.heap.size W w')
    (q2 : ∀ v W, Bytes W v B → Calls Try.prog 31 #[v] W fun e w' => (∃ ka kc, e = .returned (.tuple #[.agg #[.int .i64 c, .int .i64 k, .int .i64 i, .slice ka nL kc], .agg #[.bool false, .int .i64 0, .int .i64 0]]) ∧ BuckAt w' (.slice ka nL kc) L) ∧ Below W.heap.size W w')
    (q3 : ∀ ka kc W, BuckAt W (.slice ka nL kc) L → Below w.heap.size w W → Calls Try.prog 32 #[.agg #[.int .i64 c, .int .i64 k, .int .i64 i, .slice su n cu], .agg #[.int .i64 c, .int .i64 k, .int .i64 i, .slice ka nL kc]] W fun e w' => e = .returned (.bool true) ∧ Below W.heap.size W w')
    (q4 : ∀ W, Below w.heap.size w W → Calls Try.prog 31 #[.slice ao m cap] W fun e w' => e = .returned (.tuple #[.agg #[.int .i64 0, .int .i64 0, .int .i64 0, .slice none 0 0], .agg #[.bool true, .int .i64 t, .int .i64 d]]) ∧ Below W.heap.size W w')
    (q7 : ∀ W, Calls Try.prog 32 #[.agg #[.int .i64 0, .int .i64 0, .int .i64 0, .slice none 0 0], .agg #[.int .i64 0, .int .i64 0, .int .i64 0, .slice none 0 0]] W fun e w' => e = .returned (.bool true) ∧ Below W.heap.size W w') :
    Calls Try.prog 7 #[.agg #[.int .i64 c, .int .i64 k, .int .i64 i, .slice su n cu], .slice ao m cap] w fun e w' => e = .returned (.bool true) ∧ Below w.heap.size w w' := by
  have A0 := hide_ (AB.at0 w 55 [.int .i64 c, .int .i64 k, .int .i64 i, .slice su n cu])
  have B0 := hide_ (below1 w (.cells #[.int .i64 c, .int .i64 k, .int .i64 i, .slice su n cu] 55))
  obtain ⟨x0, x1, x2, x3, -⟩ := A0.out.k4
  have hp := hide_ hp
  have q1 := hide_ q1
  have q2 := hide_ q2
  have q3 := hide_ q3
  have q4 := hide_ q4
  have q7 := hide_ q7
  have g1 : ¬ (70000 : Int) < (m : Int) := by omega
  go_enter Try.func7, Try.ntmps7
  go_wp2_with (first | (go_at_call 28; refine hp.out.mono ?_; rintro e w0 ⟨hz0, b0⟩; obtain ⟨z0, rfl⟩ := hz0; have k0 := hide_ (B0.out.trans (b0.mono B0.out.size)); have A1 := hide_ (A0.out.later b0); obtain ⟨x0, x1, x2, x3, -⟩ := A1.out.k4; clear b0; cases z0) | (go_at_call_of 30 (Value.agg #[.int .i64 c, .int .i64 k, .int .i64 i, .slice su n cu]); refine (q1.out _ k0.out).mono ?_; rintro e w1 ⟨ra, rc, rfl, h1, b1⟩; have k1 := hide_ (k0.out.trans (b1.mono k0.out.size)); have h1 := hide_ h1; have A2 := hide_ (A1.out.later b1); obtain ⟨x0, x1, x2, x3, -⟩ := A2.out.k4; clear b1) | (go_at_call_of 31 (Value.slice ra nB rc); refine (q2.out _ _ h1.out).mono ?_; rintro e w2 ⟨⟨ka, kc, rfl, h2⟩, b2⟩; have j2 := b2.trans ((below2 w2 (.cells #[.int .i64 c, .int .i64 k, .int .i64 i, .slice ka nL kc] 55) (.cells #[.bool false, .int .i64 0, .int .i64 0] 34)).mono b2.size); have k2 := hide_ (k1.out.trans (j2.mono k1.out.size)); have H2 := hide_ (h2.later (below2 w2 (.cells #[.int .i64 c, .int .i64 k, .int .i64 i, .slice ka nL kc] 55) (.cells #[.bool false, .int .i64 0, .int .i64 0] 34))); have A3 := hide_ (A2.out.later j2); obtain ⟨x0, x1, x2, x3, -⟩ := A3.out.k4; obtain ⟨y0, y1, y2, y3, -⟩ := ((AB.at0 w2 55 [.int .i64 c, .int .i64 k, .int .i64 i, .slice ka nL kc]).alloc (.cells #[.bool false, .int .i64 0, .int .i64 0] 34)).k4; obtain ⟨f0, f1, f2, -⟩ := (AB.at1 w2 (.cells #[.int .i64 c, .int .i64 k, .int .i64 i, .slice ka nL kc] 55) 34 [.bool false, .int .i64 0, .int .i64 0]).three; clear b2 j2 h2) | (go_at_call_of 32 (Value.agg #[.int .i64 c, .int .i64 k, .int .i64 i, .slice su n cu]); refine (q3.out _ _ _ H2.out k2.out).mono ?_; rintro e w3 ⟨rfl, b3⟩; have k3 := hide_ (k2.out.trans (b3.mono k2.out.size)); clear b3) | (go_at_call_of 31 (Value.slice ao m cap); refine (q4.out _ k3.out).mono ?_; rintro e w4 ⟨rfl, b4⟩; have j4 := b4.trans ((below2 w4 (.cells #[.int .i64 0, .int .i64 0, .int .i64 0, .slice none 0 0] 55) (.cells #[.bool true, .int .i64 t, .int .i64 d] 34)).mono b4.size); have k4' := hide_ (k3.out.trans (j4.mono k3.out.size)); obtain ⟨y0, y1, y2, y3, -⟩ := ((AB.at0 w4 55 [.int .i64 0, .int .i64 0, .int .i64 0, .slice none 0 0]).alloc (.cells #[.bool true, .int .i64 t, .int .i64 d] 34)).k4; obtain ⟨f0, f1, f2, -⟩ := (AB.at1 w4 (.cells #[.int .i64 0, .int .i64 0, .int .i64 0, .slice none 0 0] 55) 34 [.bool true, .int .i64 t, .int .i64 d]).three; clear b4 j4) | (go_at_call_of 32 (Value.agg #[.int .i64 0, .int .i64 0, .int .i64 0, .slice none 0 0]); refine (q7.out _).mono ?_; rintro e w6 ⟨rfl, b6⟩; have k6 := hide_ (k4'.out.trans (b6.mono k4'.out.size)); clear b6) | (go_at_call 29; refine (awake18_any _).mono ?_; rintro e w9 ⟨rfl, b9⟩))
  · go_ret
    exact ⟨rfl, k0.out.trans (b9.mono k0.out.size)⟩
  · go_ret
    exact ⟨rfl, k6.out.trans (b9.mono k6.out.size)⟩

end Go.Proofs.Ytkhpbkdblhcepaa

namespace Go.Proofs.Ytkhpbkdblhcepaa
open Go Go.RowKit
set_option linter.unusedVariables false
set_option linter.unusedSimpArgs false

set_option maxRecDepth 100000 in
set_option maxHeartbeats 8000000 in
theorem gb_no (c k i : Int) (su : Option Addr) (n cu : Nat) (ao : Option Addr) (cap m : Nat) (w : World) (l : List Int) (K : List BK) (c4 k4 i4 : Int) (nK : Nat) (hm : m ≤ 70000) (hp : Calls Try.prog 28 #[.slice su n cu, .int .i64 110] (w.alloc (.cells #[.int .i64 c, .int .i64 k, .int .i64 i, .slice su n cu] 55)) fun e w' => IsBoolE e ∧ Below (w.alloc (.cells #[.int .i64 c, .int .i64 k, .int .i64 i, .slice su n cu] 55)).heap.size (w.alloc (.cells #[.int .i64 c, .int .i64 k, .int .i64 i, .slice su n cu] 55)) w')
    (q1 : ∀ W, Below w.heap.size w W → Calls Try.prog 30 #[.agg #[.int .i64 c, .int .i64 k, .int .i64 i, .slice su n cu]] W fun e w' => e = .returned (.tuple #[.slice none 0 0, .int .i64 1]) ∧ Below W.heap.size W w')
    (q4 : ∀ W, Below w.heap.size w W → Calls Try.prog 31 #[.slice ao m cap] W fun e w' => (∃ ka4 kc4, e = .returned (.tuple #[.agg #[.int .i64 c4, .int .i64 k4, .int .i64 i4, .slice ka4 nK kc4], .agg #[.bool false, .int .i64 0, .int .i64 0]]) ∧ BuckAt w' (.slice ka4 nK kc4) K) ∧ Below W.heap.size W w')
    (q5 : ∀ ka4 kc4 W, BuckAt W (.slice ka4 nK kc4) K → Calls Try.prog 30 #[.agg #[.int .i64 c4, .int .i64 k4, .int .i64 i4, .slice ka4 nK kc4]] W fun e w' => ∃ ra rc, e = .returned (.tuple #[.slice ra m rc, .int .i64 0]) ∧ Bytes w' (.slice ra m rc) l ∧ Below W.heap.size W w')
    (q6 : ∀ v W, Bytes W v l → Below w.heap.size w W → Calls Try.prog 11 #[v, .slice ao m cap] W fun e w' => e = .returned (.bool true) ∧ Below W.heap.size W w') :
    Calls Try.prog 7 #[.agg #[.int .i64 c, .int .i64 k, .int .i64 i, .slice su n cu], .slice ao m cap] w fun e w' => e = .returned (.bool true) ∧ Below w.heap.size w w' := by
  have A0 := hide_ (AB.at0 w 55 [.int .i64 c, .int .i64 k, .int .i64 i, .slice su n cu])
  have B0 := hide_ (below1 w (.cells #[.int .i64 c, .int .i64 k, .int .i64 i, .slice su n cu] 55))
  obtain ⟨x0, x1, x2, x3, -⟩ := A0.out.k4
  have hp := hide_ hp
  have q1 := hide_ q1
  have q4 := hide_ q4
  have q5 := hide_ q5
  have q6 := hide_ q6
  have g1 : ¬ (70000 : Int) < (m : Int) := by omega
  go_enter Try.func7, Try.ntmps7
  go_wp2_with (first | (go_at_call 28; refine hp.out.mono ?_; rintro e w0 ⟨hz0, b0⟩; obtain ⟨z0, rfl⟩ := hz0; have k0 := hide_ (B0.out.trans (b0.mono B0.out.size)); have A1 := hide_ (A0.out.later b0); obtain ⟨x0, x1, x2, x3, -⟩ := A1.out.k4; clear b0; cases z0) | (go_at_call_of 30 (Value.agg #[.int .i64 c, .int .i64 k, .int .i64 i, .slice su n cu]); refine (q1.out _ k0.out).mono ?_; rintro e w1 ⟨rfl, b1⟩; have k3 := hide_ (k0.out.trans (b1.mono k0.out.size)); clear b1) | (go_at_call_of 31 (Value.slice ao m cap); refine (q4.out _ k3.out).mono ?_; rintro e w4 ⟨⟨ka4, kc4, rfl, h4⟩, b4⟩; have j4 := b4.trans ((below2 w4 (.cells #[.int .i64 c4, .int .i64 k4, .int .i64 i4, .slice ka4 nK kc4] 55) (.cells #[.bool false, .int .i64 0, .int .i64 0] 34)).mono b4.size); have k4' := hide_ (k3.out.trans (j4.mono k3.out.size)); have H4 := hide_ (h4.later (below2 w4 (.cells #[.int .i64 c4, .int .i64 k4, .int .i64 i4, .slice ka4 nK kc4] 55) (.cells #[.bool false, .int .i64 0, .int .i64 0] 34))); obtain ⟨y0, y1, y2, y3, -⟩ := ((AB.at0 w4 55 [.int .i64 c4, .int .i64 k4, .int .i64 i4, .slice ka4 nK kc4]).alloc (.cells #[.bool false, .int .i64 0, .int .i64 0] 34)).k4; obtain ⟨f0, f1, f2, -⟩ := (AB.at1 w4 (.cells #[.int .i64 c4, .int .i64 k4, .int .i64 i4, .slice ka4 nK kc4] 55) 34 [.bool false, .int .i64 0, .int .i64 0]).three; clear b4 j4 h4) | (go_at_call_of 30 (Value.agg #[.int .i64 c4, .int .i64 k4, .int .i64 i4, .slice ka4 nK kc4]); refine (q5.out _ _ _ H4.out).mono ?_; rintro e w5 ⟨ra5, rc5, rfl, h5, b5⟩; have k5 := hide_ (k4'.out.trans (b5.mono k4'.out.size)); have h5 := hide_ h5; clear b5) | (go_at_call 11; refine (q6.out _ _ h5.out k5.out).mono ?_; rintro e w6 ⟨rfl, b6⟩; have k6 := hide_ (k5.out.trans (b6.mono k5.out.size)); clear b6) | (go_at_call 29; refine (awake18_any _).mono ?_; rintro e w9 ⟨rfl, b9⟩))
  · go_ret
    exact ⟨rfl, k0.out.trans (b9.mono k0.out.size)⟩
  · go_ret
    exact ⟨rfl, k6.out.trans (b9.mono k6.out.size)⟩

set_option maxRecDepth 100000 in
set_option maxHeartbeats 8000000 in
theorem gb_nb (c k i : Int) (su : Option Addr) (n cu : Nat) (ao : Option Addr) (cap m : Nat) (w : World) (t d : Int) (hm : m ≤ 70000) (hp : Calls Try.prog 28 #[.slice su n cu, .int .i64 110] (w.alloc (.cells #[.int .i64 c, .int .i64 k, .int .i64 i, .slice su n cu] 55)) fun e w' => IsBoolE e ∧ Below (w.alloc (.cells #[.int .i64 c, .int .i64 k, .int .i64 i, .slice su n cu] 55)).heap.size (w.alloc (.cells #[.int .i64 c, .int .i64 k, .int .i64 i, .slice su n cu] 55)) w')
    (q1 : ∀ W, Below w.heap.size w W → Calls Try.prog 30 #[.agg #[.int .i64 c, .int .i64 k, .int .i64 i, .slice su n cu]] W fun e w' => e = .returned (.tuple #[.slice none 0 0, .int .i64 1]) ∧ Below W.heap.size W w')
    (q4 : ∀ W, Below w.heap.size w W → Calls Try.prog 31 #[.slice ao m cap] W fun e w' => e = .returned (.tuple #[.agg #[.int .i64 0, .int .i64 0, .int .i64 0, .slice none 0 0], .agg #[.bool true, .int .i64 t, .int .i64 d]]) ∧ Below W.heap.size W w')
    (q7 : ∀ W, Calls Try.prog 32 #[.agg #[.int .i64 0, .int .i64 0, .int .i64 0, .slice none 0 0], .agg #[.int .i64 0, .int .i64 0, .int .i64 0, .slice none 0 0]] W fun e w' => e = .returned (.bool true) ∧ Below W.heap.size W w') :
    Calls Try.prog 7 #[.agg #[.int .i64 c, .int .i64 k, .int .i64 i, .slice su n cu], .slice ao m cap] w fun e w' => e = .returned (.bool true) ∧ Below w.heap.size w w' := by
  have A0 := hide_ (AB.at0 w 55 [.int .i64 c, .int .i64 k, .int .i64 i, .slice su n cu])
  have B0 := hide_ (below1 w (.cells #[.int .i64 c, .int .i64 k, .int .i64 i, .slice su n cu] 55))
  obtain ⟨x0, x1, x2, x3, -⟩ := A0.out.k4
  have hp := hide_ hp
  have q1 := hide_ q1
  have q4 := hide_ q4
  have q7 := hide_ q7
  have g1 : ¬ (70000 : Int) < (m : Int) := by omega
  go_enter Try.func7, Try.ntmps7
  go_wp2_with (first | (go_at_call 28; refine hp.out.mono ?_; rintro e w0 ⟨hz0, b0⟩; obtain ⟨z0, rfl⟩ := hz0; have k0 := hide_ (B0.out.trans (b0.mono B0.out.size)); have A1 := hide_ (A0.out.later b0); obtain ⟨x0, x1, x2, x3, -⟩ := A1.out.k4; clear b0; cases z0) | (go_at_call_of 30 (Value.agg #[.int .i64 c, .int .i64 k, .int .i64 i, .slice su n cu]); refine (q1.out _ k0.out).mono ?_; rintro e w1 ⟨rfl, b1⟩; have k3 := hide_ (k0.out.trans (b1.mono k0.out.size)); clear b1) | (go_at_call_of 31 (Value.slice ao m cap); refine (q4.out _ k3.out).mono ?_; rintro e w4 ⟨rfl, b4⟩; have j4 := b4.trans ((below2 w4 (.cells #[.int .i64 0, .int .i64 0, .int .i64 0, .slice none 0 0] 55) (.cells #[.bool true, .int .i64 t, .int .i64 d] 34)).mono b4.size); have k4' := hide_ (k3.out.trans (j4.mono k3.out.size)); obtain ⟨y0, y1, y2, y3, -⟩ := ((AB.at0 w4 55 [.int .i64 0, .int .i64 0, .int .i64 0, .slice none 0 0]).alloc (.cells #[.bool true, .int .i64 t, .int .i64 d] 34)).k4; obtain ⟨f0, f1, f2, -⟩ := (AB.at1 w4 (.cells #[.int .i64 0, .int .i64 0, .int .i64 0, .slice none 0 0] 55) 34 [.bool true, .int .i64 t, .int .i64 d]).three; clear b4 j4) | (go_at_call_of 32 (Value.agg #[.int .i64 0, .int .i64 0, .int .i64 0, .slice none 0 0]); refine (q7.out _).mono ?_; rintro e w6 ⟨rfl, b6⟩; have k6 := hide_ (k4'.out.trans (b6.mono k4'.out.size)); clear b6) | (go_at_call 29; refine (awake18_any _).mono ?_; rintro e w9 ⟨rfl, b9⟩))
  · go_ret
    exact ⟨rfl, k0.out.trans (b9.mono k0.out.size)⟩
  · go_ret
    exact ⟨rfl, k6.out.trans (b9.mono k6.out.size)⟩

end Go.Proofs.Ytkhpbkdblhcepaa

namespace Go.Proofs.Ytkhpbkdblhcepaa
open Go Go.RowKit
set_option linter.unusedVariables false
set_option linter.unusedSimpArgs false

theorem plainB_at {su : Option Addr} {n cu : Nat} {L : List BK} {w w0 : World} (hL : BuckAt w (.slice su n cu) L) (hb : Below w.heap.size w w0) : Calls Try.prog 28 #[.slice su n cu, .int .i64 110] w0 fun e w' => IsBoolE e ∧ Below w0.heap.size w0 w' := plainB_any (.slice su n cu) L 110 w0 (hL.later hb)
theorem same_zero (W : World) : Calls Try.prog 32 #[.agg #[.int .i64 0, .int .i64 0, .int .i64 0, .slice none 0 0], .agg #[.int .i64 0, .int .i64 0, .int .i64 0, .slice none 0 0]] W fun e w' => e = .returned (.bool true) ∧ Below W.heap.size W w' := by
  have h := gsame_any 0 0 0 none 0 0 [] 0 0 0 none 0 0 [] W (BuckAt.nil W) (BuckAt.nil W)
  rw [show sameG 0 0 0 [] 0 0 0 [] = true from rfl] at h
  exact h
theorem sameG_true (c k i : Int) (L : List BK) : sameG c k i L c k i L = true := by
  unfold sameG
  rw [sameBL_true rfl]
  simp
theorem groupmodBack_walk (c k i : Int) (su : Option Addr) (n cu : Nat) (L : List BK) (u : Value) (l : List Int) (w : World) (hL : BuckAt w (.slice su n cu) L) (hF : BFit L) (hB : Bytes w u l) :
    Calls Try.prog 7 #[.agg #[.int .i64 c, .int .i64 k, .int .i64 i, .slice su n cu], u] w fun e w' => e = .returned (.bool true) ∧ Below w.heap.size w w' := by
  have hp := plainB_at hL (below1 w (.cells #[.int .i64 c, .int .i64 k, .int .i64 i, .slice su n cu] 55))
  obtain ⟨ao, cap, rfl⟩ := hB.short
  have hm : l.length ≤ 9223372036854775807 := by obtain ⟨_, _, h1⟩ := Bytes.at hB; unfold maxLen at *; omega
  have hn : n = L.length := by obtain ⟨s, c', e, -⟩ := hL; cases e; rfl
  by_cases h7 : l.length ≤ 70000
  · have q4 : (∃ K, gOK Ans l K) ∨ ∃ t d, gBad Ans l t d := by
      rcases g_all l hB.isB_ with ⟨K, h, -⟩ | ⟨t, d, h, -⟩
      · exact .inl ⟨K, h⟩
      · exact .inr ⟨t, d, h⟩
    have q4o : ∀ K, gOK Ans l K → ∀ W, Below w.heap.size w W → Calls Try.prog 31 #[.slice ao l.length cap] W fun e w' => (∃ ka4 kc4, e = .returned (.tuple #[.agg #[.int .i64 (be2 l 0), .int .i64 (l.getD 2 0), .int .i64 (be4 l 4), .slice ka4 K.length kc4], .agg #[.bool false, .int .i64 0, .int .i64 0]]) ∧ BuckAt w' (.slice ka4 K.length kc4) K) ∧ Below W.heap.size W w' := fun K hK W hW => gdec_ok _ l K W (hB.later hW) hK
    have q5o : ∀ K, gOK Ans l K → ∀ ka4 kc4 W, BuckAt W (.slice ka4 K.length kc4) K → Calls Try.prog 30 #[.agg #[.int .i64 (be2 l 0), .int .i64 (l.getD 2 0), .int .i64 (be4 l 4), .slice ka4 K.length kc4]] W fun e w' => ∃ ra rc, e = .returned (.tuple #[.slice ra l.length rc, .int .i64 0]) ∧ Bytes w' (.slice ra l.length rc) l ∧ Below W.heap.size W w' := fun K hK ka4 kc4 W hW => by
      obtain ⟨e1, e2, e3⟩ := gok_all hB.isB_ hK
      refine (genc_yes _ _ _ _ _ _ K W hW e2 e3).mono ?_
      rintro e w' ⟨⟨r, rfl, h⟩, b⟩
      rw [e1] at h
      obtain ⟨ra, rc, re⟩ := h.bytes.short
      subst re
      exact ⟨ra, rc, rfl, h.bytes, b⟩
    have q6o : ∀ v W, Bytes W v l → Below w.heap.size w W → Calls Try.prog 11 #[v, .slice ao l.length cap] W fun e w' => e = .returned (.bool true) ∧ Below W.heap.size W w' := fun v W h hW => by
      have qe := equal_any v _ l l W h (hB.later hW)
      rwa [beq_self_eq_true] at qe
    by_cases hr : gR c k i L = true
    · obtain ⟨hok, he1, he2, he3⟩ := gok_enc hF hr
      have q1 : ∀ W, Below w.heap.size w W → Calls Try.prog 30 #[.agg #[.int .i64 c, .int .i64 k, .int .i64 i, .slice su n cu]] W fun e w' => ∃ ra rc, e = .returned (.tuple #[.slice ra (gE c k i L).length rc, .int .i64 0]) ∧ Bytes w' (.slice ra (gE c k i L).length rc) (gE c k i L) ∧ Below W.heap.size W w' := fun W hW => (genc_yes c k i su n cu L W (hL.later hW) hF hr).mono (by
        rintro e w' ⟨⟨r, rfl, h⟩, b⟩
        obtain ⟨ra, rc, re⟩ := h.bytes.short
        subst re
        exact ⟨ra, rc, rfl, h.bytes, b⟩)
      have q2 : ∀ v W, Bytes W v (gE c k i L) → Calls Try.prog 31 #[v] W fun e w' => (∃ ka kc, e = .returned (.tuple #[.agg #[.int .i64 c, .int .i64 k, .int .i64 i, .slice ka L.length kc], .agg #[.bool false, .int .i64 0, .int .i64 0]]) ∧ BuckAt w' (.slice ka L.length kc) L) ∧ Below W.heap.size W w' := fun v W h => by
        have := gdec_ok v _ L W h hok
        rw [he1, he2, he3] at this
        exact this
      have q3 : ∀ ka kc W, BuckAt W (.slice ka L.length kc) L → Below w.heap.size w W → Calls Try.prog 32 #[.agg #[.int .i64 c, .int .i64 k, .int .i64 i, .slice su n cu], .agg #[.int .i64 c, .int .i64 k, .int .i64 i, .slice ka L.length kc]] W fun e w' => e = .returned (.bool true) ∧ Below W.heap.size W w' := fun ka kc W h hW => by
        have := gsame_any c k i su n cu L c k i ka L.length kc L W (hL.later hW) h
        rwa [sameG_true] at this
      rcases q4 with ⟨K, hK⟩ | ⟨t, d, hbd⟩
      · exact gb_yo c k i su n cu ao cap l.length w L (gE c k i L) l (gE c k i L).length L.length K _ _ _ K.length h7 hp q1 q2 q3 (q4o K hK) (q5o K hK) q6o
      · exact gb_yb c k i su n cu ao cap l.length w L (gE c k i L) l (gE c k i L).length L.length t d h7 hp q1 q2 q3 (fun W hW => gdec_bad _ l t d W (hB.later hW) hbd) same_zero
    · have hr' : gR c k i L = false := by simpa using hr
      have q1 : ∀ W, Below w.heap.size w W → Calls Try.prog 30 #[.agg #[.int .i64 c, .int .i64 k, .int .i64 i, .slice su n cu]] W fun e w' => e = .returned (.tuple #[.slice none 0 0, .int .i64 1]) ∧ Below W.heap.size W w' := fun W hW => genc_no c k i su n cu L W (hL.later hW) hF hr'
      rcases q4 with ⟨K, hK⟩ | ⟨t, d, hbd⟩
      · exact gb_no c k i su n cu ao cap l.length w l K _ _ _ K.length h7 hp q1 (q4o K hK) (q5o K hK) q6o
      · exact gb_nb c k i su n cu ao cap l.length w t d h7 hp q1 (fun W hW => gdec_bad _ l t d W (hB.later hW) hbd) same_zero
  · exact gb_dark c k i su n cu ao cap l.length w hm (by omega) hp
end Go.Proofs.Ytkhpbkdblhcepaa

namespace Go.Proofs.Ytkhpbkdblhcepaa
set_option maxRecDepth 100000
open Go Go.RowKit Go.ChangeShapes Go.WideShapes Go.Deep
set_option linter.unusedVariables false
set_option linter.unusedSimpArgs false

theorem open_bucksT {H : Type} {enc : TypeId × Value → H} {W : World} {base : Nat} {spare : Nat → Bool} {held : Bool} {fuel : Nat} {cs : List Value} {x : DataW H × List MemPlace}
    (h : DataW.trod enc Try.prog W base spare held fuel 53 cs = some x) : ∃ u L, cs = [u] ∧ BuckAt W u L ∧ BFit L := by
  have : Inhabited PB := ⟨((0, 0, 0, []), .slice none 0 0)⟩
  obtain ⟨a, cap, P, rfl, h1, h2, h3, h4, h5⟩ := open_eachT bcl (fun p : PB => ActAt W p.2 p.1.2.2.2 ∧ AFit p.1.2.2.2) 4 (by omega) (fun o => rfl) Try.underlying53 (by kernel_rfl) (fun hh => buck_of hh) h
  refine ⟨_, P.map (·.1), rfl, ⟨a, cap, by rw [List.length_map], by rw [List.length_map]; exact h1, h2, h3, fun i o hi => ?_⟩, fun o ho => ?_⟩
  · rw [List.getElem?_map] at hi
    obtain ⟨p, hp, rfl⟩ := Option.map_eq_some_iff.1 hi
    obtain ⟨q, off, e, hc⟩ := h5 i p hp
    exact ⟨q, off, p.2, e, hc 0 _ rfl, hc 1 _ rfl, hc 2 _ rfl, hc 3 _ rfl, (h4 p (List.mem_of_getElem? hp)).1⟩
  · obtain ⟨p, hp, rfl⟩ := List.mem_map.1 ho
    exact (h4 p hp).2
theorem gmod_of {H : Type} {enc : TypeId × Value → H} {W : World} {base : Nat} {spare : Nat → Bool} {held : Bool} {fuel : Nat} {cs : List Value} {x : DataW H × List MemPlace}
    (h : DataW.trod enc Try.prog W base spare held fuel 55 cs = some x) : ∃ (c k i : Int) (su : Option Addr) (n cu : Nat) (L : List BK), cs = [.int .i64 c, .int .i64 k, .int .i64 i, .slice su n cu] ∧ BuckAt W (.slice su n cu) L ∧ BFit L := by
  have h28 : Try.prog.cellsOf 55 = 4 := by kernel_rfl
  have h22 : Try.prog.cellsOf 53 = 1 := by kernel_rfl
  have h3 : Try.prog.cellsOf 3 = 1 := by kernel_rfl
  obtain ⟨xs, n, _, rfl, hl, hlen, hf⟩ := DataW.trod_struct Try.underlying55 h
  have hlen' : xs.length = 4 := hlen
  match xs, hlen' with
  | [w0, w1, w2, w3], _ =>
    have e0 := hf 0 _ rfl
    have e1 := hf 1 _ rfl
    have e2 := hf 2 _ rfl
    have e3 := hf 3 _ rfl
    obtain ⟨a, ea, _, _⟩ := DataW.trod_int Try.underlying3 e0
    obtain ⟨b, eb, _, _⟩ := DataW.trod_int Try.underlying3 e1
    obtain ⟨c, ec, _, _⟩ := DataW.trod_int Try.underlying3 e2
    obtain ⟨u, L, eu, hA, hF⟩ := open_bucksT e3
    obtain ⟨s, cap, hu⟩ : ∃ s cap, u = .slice s L.length cap := by
      obtain ⟨s, cap, e, -⟩ := hA
      exact ⟨s, cap, e⟩
    subst hu
    refine ⟨a, b, c, s, L.length, cap, L, ?_, hA, hF⟩
    rw [h28] at hl
    match cs, hl with
    | [c0, c1, c2, c3], _ =>
      simp [h22, h3] at ea eb ec eu
      rw [ea, eb, ec, eu]
/-- a change of groups that came in -/
theorem open_gmod {H : Type} {enc : TypeId × Value → H} {W : World} {r : Reach} {b0 base : Nat} {spare : Nat → Bool} {held : Bool} {v : Value} {d : DataW H} {p : List MemPlace}
    (hv' : Value.okWide Try.prog W r b0 55 v) (h : DataW.Trod enc Try.prog W base spare held 55 v d p) : ∃ (c k i : Int) (su : Option Addr) (n cu : Nat) (L : List BK), v = .agg #[.int .i64 c, .int .i64 k, .int .i64 i, .slice su n cu] ∧ BuckAt W (.slice su n cu) L ∧ BFit L := by
  obtain ⟨cs, rfl, hsz⟩ := okWide_struct Try.underlying55 hv'
  obtain ⟨fuel, hf⟩ := h
  obtain ⟨c, k, i, su, n, cu, L, e, hL, hF⟩ := gmod_of hf
  refine ⟨c, k, i, su, n, cu, L, ?_, hL, hF⟩
  have e' : cs.toList = _ := e
  congr 1
  apply Array.ext'
  rw [e']

end Go.Proofs.Ytkhpbkdblhcepaa

