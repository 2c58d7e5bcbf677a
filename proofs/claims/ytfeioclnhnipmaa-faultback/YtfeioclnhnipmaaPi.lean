import Derived.Test.YtfeioclnhnipmaaPf
import Derived.Deep.RegionHeld3
import Derived.Deep.RegionWith
import Derived.Deep.MidRow
import Derived.Deep.Cut
namespace Go.Proofs.Ytfeioclnhnipmaa
open Go Go.RowKit
set_option linter.unusedVariables false
set_option linter.unusedSimpArgs false

theorem fparse_both (ao : Option Addr) (cap : Nat) (m : List Int) (w : World) (hB : Bytes w (.slice ao m.length cap) m) (h5 : m.length ≤ 100000000) : ∃ (o : Bool) (t c : Int) (B : List Int) (ok : Bool), (∀ W, Below w.heap.size w W → Calls Try.prog 14 #[.slice ao m.length cap] W fun e w' => ∃ a cc, e = .returned (.tuple #[.agg #[.bool o, .int .i64 t, .int .i64 c], .slice a B.length cc, .bool ok]) ∧ Bytes w' (.slice a B.length cc) B ∧ Below W.heap.size W w') ∧ (∀ W, Below w.heap.size w W → Calls Try.prog 15 #[.slice ao m.length cap] W fun e w' => ∃ a cc, e = .returned (.tuple #[.agg #[.bool o, .int .i64 t, .int .i64 c], .slice a B.length cc, .bool ok]) ∧ Bytes w' (.slice a B.length cc) B ∧ Below W.heap.size W w') := by
  by_cases hr : m.length < 4
  · refine ⟨false, 0, 0, [], false, fun W hW => (fparse_short _ m W (hB.later hW) hr).mono ?_, fun W hW => (rfparse_short _ m W (hB.later hW) hr).mono ?_⟩
    · rintro e w' ⟨rfl, b⟩
      exact ⟨none, 0, rfl, Bytes.nil _, b⟩
    · rintro e w' ⟨rfl, b⟩
      exact ⟨none, 0, rfl, Bytes.nil _, b⟩
  · have hd : (m.drop 4).length = m.length - 4 := by simp
    refine ⟨true, be2 m 0, be2 m 2, m.drop 4, true, fun W hW => (fparse_ok _ m W (hB.later hW) (by omega) h5).mono ?_, fun W hW => (rfparse_ok _ m W (hB.later hW) (by omega) h5).mono ?_⟩
    · rintro e w' ⟨a, cc, rfl, h, b⟩
      exact ⟨a, cc, by rw [hd], by rw [hd]; exact h, b⟩
    · rintro e w' ⟨a, cc, rfl, h, b⟩
      exact ⟨a, cc, by rw [hd], by rw [hd]; exact h, b⟩

set_option maxRecDepth 100000 in
set_option maxHeartbeats 8000000 in
theorem faultParses_walk (v : Value) (m : List Int) (w : World) (hB : Bytes w v m) :
    Calls Try.prog 4 #[v] w fun e w' => e = .returned (.bool true) ∧ Below w.heap.size w w' := by
  have hm := hB.big
  obtain ⟨ao, cap, rfl⟩ := hB.short
  by_cases h7 : m.length ≤ 4000
  · have h7' : ¬ (4000 : Int) < (m.length : Int) := by omega
    obtain ⟨o, t, c, B, ok, q1, q2⟩ := fparse_both ao cap m w hB (by omega)
    have q1 := hide_ q1
    have q2 := hide_ q2
    obtain ⟨n, hn⟩ : ∃ n, B.length = n := ⟨_, rfl⟩
    rw [hn] at q1 q2
    clear hB h7 hn
    go_enter Try.func4, Try.ntmps4
    go_upto_region 4 with (go_at_call 14; refine (q1.out _ (Below.refl _ _)).mono ?_; rintro e w1 ⟨a1, c1, rfl, h1, b1⟩; have k1 := hide_ b1; have h1 := hide_ h1; clear b1)
    have A1 := hide_ (AB.at0 w1 23 [.bool o, .int .i64 t, .int .i64 c])
    have h1 := hide_ (h1.out.later (below1 w1 (.cells #[.bool o, .int .i64 t, .int .i64 c] 23)))
    have k1 := hide_ (k1.out.trans ((below1 w1 (.cells #[.bool o, .int .i64 t, .int .i64 c] 23)).mono k1.out.size))
    generalize w1.alloc (.cells #[.bool o, .int .i64 t, .int .i64 c] 23) = w2 at *
    generalize w1.heap.size = g1 at *
    go_upto_region 5 with (go_at_call 15; refine (q2.out _ k1.out).mono ?_; rintro e w2' ⟨a2, c2, rfl, h2, b2⟩; have k2 := hide_ (k1.out.trans (b2.mono k1.out.size)); have h2 := hide_ h2; have A1 := hide_ (A1.out.later b2); have h1 := hide_ (h1.out.later b2); clear b2)
    have A2 := hide_ (AB.at0 w2' 23 [.bool o, .int .i64 t, .int .i64 c])
    have A1 := hide_ (A1.out.alloc (.cells #[.bool o, .int .i64 t, .int .i64 c] 23))
    have h2 := hide_ (h2.out.later (below1 w2' (.cells #[.bool o, .int .i64 t, .int .i64 c] 23)))
    have h1 := hide_ (h1.out.later (below1 w2' (.cells #[.bool o, .int .i64 t, .int .i64 c] 23)))
    have k3 := hide_ (k2.out.trans ((below1 w2' (.cells #[.bool o, .int .i64 t, .int .i64 c] 23)).mono k2.out.size))
    generalize w2'.alloc (.cells #[.bool o, .int .i64 t, .int .i64 c] 23) = w3 at *
    generalize w2'.heap.size = g2 at *
    obtain ⟨x0, x1, x2, -⟩ := A1.out.three
    obtain ⟨y0, y1, y2, -⟩ := A2.out.three
    go_wp2_with (first | (go_at_call 7; refine (bequal_any _ _ B B _ h1.out h2.out).mono ?_; rintro e w9 ⟨rfl, e9⟩; have e9 := e9.symm; subst e9) | (go_at_call 6; refine (awake19_any _).mono ?_; rintro e w8 ⟨rfl, b8⟩))
    go_ret
    exact ⟨rfl, k3.out.trans (b8.mono k3.out.size)⟩
  · have h7' : (4000 : Int) < (m.length : Int) := by omega
    clear hB h7
    go_enter Try.func4, Try.ntmps4
    go_wp2_with (go_at_call 6; refine (awake19_any _).mono ?_; rintro e w9 ⟨rfl, b9⟩)
    go_ret
    exact ⟨rfl, b9⟩

end Go.Proofs.Ytfeioclnhnipmaa
