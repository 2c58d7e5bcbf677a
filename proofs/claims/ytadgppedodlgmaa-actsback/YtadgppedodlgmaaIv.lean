import Derived.Test.YtadgppedodlgmaaJS
import Derived.Test.YtadgppedodlgmaaJA
import Derived.Deep.RegionHeld3
import Derived.Deep.RegionWith
import Derived.Deep.MidRow
import Derived.Deep.Cut
namespace Go.Proofs.Ytadgppedodlgmaa
open Go Go.RowKit
set_option linter.unusedVariables false
set_option linter.unusedSimpArgs false

set_option maxRecDepth 100000 in
set_option maxHeartbeats 8000000 in
theorem ab_yo (s : Option Addr) (sc n : Nat) (L : List A11) (B : List Int) (ao : Option Addr) (cap : Nat) (l : List Int) (K : List A11) (w : World) (hB : Bytes w (.slice ao l.length cap) l) (g1 : ¬ (200 : Int) < (n : Int)) (g2 : ¬ (4000 : Int) < (l.length : Int))
    (q1 : ∀ W, Below w.heap.size w W → Calls Try.prog 8 #[.slice s n sc] W fun e w' => ∃ r, e = .returned (.tuple #[r, .int .i64 0]) ∧ OwnB w' W.heap.size r B ∧ Below W.heap.size W w') (qd : ∀ v W, Bytes W v B → Calls Try.prog 18 #[v] W fun e w' => (∃ r, e = .returned (.tuple #[r, .agg #[.bool false, .int .i64 0, .int .i64 0]]) ∧ ActAt w' r L) ∧ Below W.heap.size W w') (qs : ∀ r W, ActAt W r L → Below w.heap.size w W → Calls Try.prog 11 #[r, .slice s n sc] W fun e w' => e = .returned (.bool true) ∧ Below W.heap.size W w')
    (q2 : ∀ W, Below w.heap.size w W → Calls Try.prog 18 #[.slice ao l.length cap] W fun e w' => (∃ r, e = .returned (.tuple #[r, .agg #[.bool false, .int .i64 0, .int .i64 0]]) ∧ ActAt w' r K) ∧ Below W.heap.size W w') (q3 : ∀ r W, ActAt W r K → Calls Try.prog 8 #[r] W fun e w' => ∃ r', e = .returned (.tuple #[r', .int .i64 0]) ∧ OwnB w' W.heap.size r' l ∧ Below W.heap.size W w') :
    Calls Try.prog 5 #[.slice s n sc, .slice ao l.length cap] w fun e w' => e = .returned (.bool true) ∧ Below w.heap.size w w' := by
  have aw := hide_ (fun w => awake13_any w)
  have HB := hide_ hB
  have q1 := hide_ q1
  have q2 := hide_ q2
  have qd := hide_ qd
  have qs := hide_ qs
  have q3 := hide_ q3
  have k0 := hide_ (Below.refl w.heap.size w)
  clear hB
  go_enter Try.func5, Try.ntmps5
  go_wp2_with (first
    | (go_at_call 8; first | (refine (q3.out _ _ h4.out).mono ?_; rintro e w5 ⟨r5, rfl, h5, b5⟩; have k5 := hide_ (k4.out.trans (b5.mono k4.out.size)); have qe := equal_any r5 (.slice ao l.length cap) l l w5 h5.bytes (HB.out.later k5.out); rw [beq_self_eq_true] at qe; have qe := hide_ qe; obtain ⟨a5, c5, e5⟩ := h5.bytes.short; subst e5; clear h5) | (refine (q1.out _ k0.out).mono ?_; rintro e w1 ⟨r1, rfl, h1, b1⟩; have k1 := hide_ b1; have h1 := hide_ h1; obtain ⟨a1, c1, e1⟩ := h1.out.bytes.short; subst e1))
    | (go_at_call 18; first | (refine (q2.out _ kS.out).mono ?_; rintro e w4 ⟨⟨r4, rfl, h4⟩, b4⟩; have k4 := hide_ (kS.out.trans ((b4.trans ((below1 w4 (.cells #[.bool false, .int .i64 0, .int .i64 0] 34)).mono b4.size)).mono kS.out.size)); have h4 := hide_ (h4.later (below1 w4 (.cells #[.bool false, .int .i64 0, .int .i64 0] 34))); obtain ⟨t0, t1, t2, -⟩ := (AB.at0 w4 34 [.bool false, .int .i64 0, .int .i64 0]).three) | (refine (qd.out _ _ h1.out.bytes).mono ?_; rintro e w2 ⟨⟨r2, rfl, h2⟩, b2⟩; have k2 := hide_ (k1.out.trans (b2.mono k1.out.size)); have k2' := hide_ (k2.out.trans ((below1 w2 (.cells #[.bool false, .int .i64 0, .int .i64 0] 34)).mono k2.out.size)); have h2 := hide_ (h2.later (below1 w2 (.cells #[.bool false, .int .i64 0, .int .i64 0] 34))); obtain ⟨f0, f1, f2, -⟩ := (AB.at0 w2 34 [.bool false, .int .i64 0, .int .i64 0]).three))
    | (go_at_call 11; refine (qs.out _ _ h2.out k2'.out).mono ?_; rintro e w3 ⟨rfl, b3⟩; have kS := hide_ (k2'.out.trans (b3.mono k2'.out.size)))
    | (go_at_call 10; refine qe.out.mono ?_; rintro e w6 ⟨rfl, b6⟩; have k6 := hide_ (k5.out.trans (b6.mono k5.out.size)))
    | (go_at_call 7; refine (aw.out _).mono ?_; rintro e w8 ⟨rfl, b8⟩))
  go_ret
  exact ⟨by first | rfl | simp, k6.out.trans (b8.mono k6.out.size)⟩

set_option maxRecDepth 100000 in
set_option maxHeartbeats 8000000 in
theorem ab_yb (s : Option Addr) (sc n : Nat) (L : List A11) (B : List Int) (ao : Option Addr) (cap : Nat) (l : List Int) (z : Int) (w : World) (hB : Bytes w (.slice ao l.length cap) l) (g1 : ¬ (200 : Int) < (n : Int)) (g2 : ¬ (4000 : Int) < (l.length : Int))
    (q1 : ∀ W, Below w.heap.size w W → Calls Try.prog 8 #[.slice s n sc] W fun e w' => ∃ r, e = .returned (.tuple #[r, .int .i64 0]) ∧ OwnB w' W.heap.size r B ∧ Below W.heap.size W w') (qd : ∀ v W, Bytes W v B → Calls Try.prog 18 #[v] W fun e w' => (∃ r, e = .returned (.tuple #[r, .agg #[.bool false, .int .i64 0, .int .i64 0]]) ∧ ActAt w' r L) ∧ Below W.heap.size W w') (qs : ∀ r W, ActAt W r L → Below w.heap.size w W → Calls Try.prog 11 #[r, .slice s n sc] W fun e w' => e = .returned (.bool true) ∧ Below W.heap.size W w')
    (q2 : ∀ W, Below w.heap.size w W → Calls Try.prog 18 #[.slice ao l.length cap] W fun e w' => e = .returned (.tuple #[.slice none 0 0, .agg #[.bool true, .int .i64 2, .int .i64 z]]) ∧ Below W.heap.size W w') :
    Calls Try.prog 5 #[.slice s n sc, .slice ao l.length cap] w fun e w' => e = .returned (.bool true) ∧ Below w.heap.size w w' := by
  have aw := hide_ (fun w => awake13_any w)
  have HB := hide_ hB
  have q1 := hide_ q1
  have q2 := hide_ q2
  have qd := hide_ qd
  have qs := hide_ qs
  have k0 := hide_ (Below.refl w.heap.size w)
  clear hB
  go_enter Try.func5, Try.ntmps5
  go_wp2_with (first
    | (go_at_call 8; first | (refine (q1.out _ k0.out).mono ?_; rintro e w1 ⟨r1, rfl, h1, b1⟩; have k1 := hide_ b1; have h1 := hide_ h1; obtain ⟨a1, c1, e1⟩ := h1.out.bytes.short; subst e1))
    | (go_at_call 18; first | (refine (q2.out _ kS.out).mono ?_; rintro e w4 ⟨rfl, b4⟩; have k4 := hide_ (kS.out.trans ((b4.trans ((below1 w4 (.cells #[.bool true, .int .i64 2, .int .i64 z] 34)).mono b4.size)).mono kS.out.size)); obtain ⟨t0, t1, t2, -⟩ := (AB.at0 w4 34 [.bool true, .int .i64 2, .int .i64 z]).three) | (refine (qd.out _ _ h1.out.bytes).mono ?_; rintro e w2 ⟨⟨r2, rfl, h2⟩, b2⟩; have k2 := hide_ (k1.out.trans (b2.mono k1.out.size)); have k2' := hide_ (k2.out.trans ((below1 w2 (.cells #[.bool false, .int .i64 0, .int .i64 0] 34)).mono k2.out.size)); have h2 := hide_ (h2.later (below1 w2 (.cells #[.bool false, .int .i64 0, .int .i64 0] 34))); obtain ⟨f0, f1, f2, -⟩ := (AB.at0 w2 34 [.bool false, .int .i64 0, .int .i64 0]).three))
    | (go_at_call 11; refine (qs.out _ _ h2.out k2'.out).mono ?_; rintro e w3 ⟨rfl, b3⟩; have kS := hide_ (k2'.out.trans (b3.mono k2'.out.size)))
    | (go_at_call 7; refine (aw.out _).mono ?_; rintro e w8 ⟨rfl, b8⟩))
  go_ret
  exact ⟨by first | rfl | simp, k4.out.trans (b8.mono k4.out.size)⟩

set_option maxRecDepth 100000 in
set_option maxHeartbeats 8000000 in
theorem ab_no (s : Option Addr) (sc n : Nat) (ao : Option Addr) (cap : Nat) (l : List Int) (K : List A11) (w : World) (hB : Bytes w (.slice ao l.length cap) l) (g1 : ¬ (200 : Int) < (n : Int)) (g2 : ¬ (4000 : Int) < (l.length : Int))
    (q1 : ∀ W, Below w.heap.size w W → Calls Try.prog 8 #[.slice s n sc] W fun e w' => e = .returned (.tuple #[.slice none 0 0, .int .i64 1]) ∧ Below W.heap.size W w')
    (q2 : ∀ W, Below w.heap.size w W → Calls Try.prog 18 #[.slice ao l.length cap] W fun e w' => (∃ r, e = .returned (.tuple #[r, .agg #[.bool false, .int .i64 0, .int .i64 0]]) ∧ ActAt w' r K) ∧ Below W.heap.size W w') (q3 : ∀ r W, ActAt W r K → Calls Try.prog 8 #[r] W fun e w' => ∃ r', e = .returned (.tuple #[r', .int .i64 0]) ∧ OwnB w' W.heap.size r' l ∧ Below W.heap.size W w') :
    Calls Try.prog 5 #[.slice s n sc, .slice ao l.length cap] w fun e w' => e = .returned (.bool true) ∧ Below w.heap.size w w' := by
  have aw := hide_ (fun w => awake13_any w)
  have HB := hide_ hB
  have q1 := hide_ q1
  have q2 := hide_ q2
  have q3 := hide_ q3
  have k0 := hide_ (Below.refl w.heap.size w)
  clear hB
  go_enter Try.func5, Try.ntmps5
  go_wp2_with (first
    | (go_at_call 8; first | (refine (q3.out _ _ h4.out).mono ?_; rintro e w5 ⟨r5, rfl, h5, b5⟩; have k5 := hide_ (k4.out.trans (b5.mono k4.out.size)); have qe := equal_any r5 (.slice ao l.length cap) l l w5 h5.bytes (HB.out.later k5.out); rw [beq_self_eq_true] at qe; have qe := hide_ qe; obtain ⟨a5, c5, e5⟩ := h5.bytes.short; subst e5; clear h5) | (refine (q1.out _ k0.out).mono ?_; rintro e w1 ⟨rfl, b1⟩; have kS := hide_ b1))
    | (go_at_call 18; first | (refine (q2.out _ kS.out).mono ?_; rintro e w4 ⟨⟨r4, rfl, h4⟩, b4⟩; have k4 := hide_ (kS.out.trans ((b4.trans ((below1 w4 (.cells #[.bool false, .int .i64 0, .int .i64 0] 34)).mono b4.size)).mono kS.out.size)); have h4 := hide_ (h4.later (below1 w4 (.cells #[.bool false, .int .i64 0, .int .i64 0] 34))); obtain ⟨t0, t1, t2, -⟩ := (AB.at0 w4 34 [.bool false, .int .i64 0, .int .i64 0]).three))
    | (go_at_call 10; refine qe.out.mono ?_; rintro e w6 ⟨rfl, b6⟩; have k6 := hide_ (k5.out.trans (b6.mono k5.out.size)))
    | (go_at_call 7; refine (aw.out _).mono ?_; rintro e w8 ⟨rfl, b8⟩))
  go_ret
  exact ⟨by first | rfl | simp, k6.out.trans (b8.mono k6.out.size)⟩

set_option maxRecDepth 100000 in
set_option maxHeartbeats 8000000 in
theorem ab_nb (s : Option Addr) (sc n : Nat) (ao : Option Addr) (cap : Nat) (l : List Int) (z : Int) (w : World) (hB : Bytes w (.slice ao l.length cap) l) (g1 : ¬ (200 : Int) < (n : Int)) (g2 : ¬ (4000 : Int) < (l.length : Int))
    (q1 : ∀ W, Below w.heap.size w W → Calls Try.prog 8 #[.slice s n sc] W fun e w' => e = .returned (.tuple #[.slice none 0 0, .int .i64 1]) ∧ Below W.heap.size W w')
    (q2 : ∀ W, Below w.heap.size w W → Calls Try.prog 18 #[.slice ao l.length cap] W fun e w' => e = .returned (.tuple #[.slice none 0 0, .agg #[.bool true, .int .i64 2, .int .i64 z]]) ∧ Below W.heap.size W w') :
    Calls Try.prog 5 #[.slice s n sc, .slice ao l.length cap] w fun e w' => e = .returned (.bool true) ∧ Below w.heap.size w w' := by
  have aw := hide_ (fun w => awake13_any w)
  have HB := hide_ hB
  have q1 := hide_ q1
  have q2 := hide_ q2
  have k0 := hide_ (Below.refl w.heap.size w)
  clear hB
  go_enter Try.func5, Try.ntmps5
  go_wp2_with (first
    | (go_at_call 8; first | (refine (q1.out _ k0.out).mono ?_; rintro e w1 ⟨rfl, b1⟩; have kS := hide_ b1))
    | (go_at_call 18; first | (refine (q2.out _ kS.out).mono ?_; rintro e w4 ⟨rfl, b4⟩; have k4 := hide_ (kS.out.trans ((b4.trans ((below1 w4 (.cells #[.bool true, .int .i64 2, .int .i64 z] 34)).mono b4.size)).mono kS.out.size)); obtain ⟨t0, t1, t2, -⟩ := (AB.at0 w4 34 [.bool true, .int .i64 2, .int .i64 z]).three))
    | (go_at_call 7; refine (aw.out _).mono ?_; rintro e w8 ⟨rfl, b8⟩))
  go_ret
  exact ⟨by first | rfl | simp, k4.out.trans (b8.mono k4.out.size)⟩

set_option maxRecDepth 100000 in
set_option maxHeartbeats 8000000 in
theorem ab_big (s : Option Addr) (sc n : Nat) (s2 : Option Addr) (sc2 m : Nat) (w : World) (h : (200 : Int) < (n : Int) ∨ ((¬ (200 : Int) < (n : Int)) ∧ (4000 : Int) < (m : Int))) :
    Calls Try.prog 5 #[.slice s n sc, .slice s2 m sc2] w fun e w' => e = .returned (.bool true) ∧ Below w.heap.size w w' := by
  have aw := hide_ (fun w => awake13_any w)
  rcases h with h | ⟨h, h2⟩
  · skip
    go_enter Try.func5, Try.ntmps5
    go_wp2_with (go_at_call 7; refine (aw.out _).mono ?_; rintro e w3 ⟨rfl, b3⟩)
    go_ret
    exact ⟨rfl, b3⟩
  · skip
    go_enter Try.func5, Try.ntmps5
    go_wp2_with (go_at_call 7; refine (aw.out _).mono ?_; rintro e w3 ⟨rfl, b3⟩)
    go_ret
    exact ⟨rfl, b3⟩

theorem actsBack_walk (v u : Value) (L : List A11) (l : List Int) (w : World) (hL : ActAt w v L) (hF : AFit L) (hB : Bytes w u l) :
    Calls Try.prog 5 #[v, u] w fun e w' => e = .returned (.bool true) ∧ Below w.heap.size w w' := by
  have hiB := hB.isB_
  obtain ⟨s, sc, rfl, hl⟩ := hL.slice
  obtain ⟨ao, cap, rfl⟩ := hB.short
  by_cases g1 : (200 : Int) < (L.length : Int)
  · exact ab_big s sc L.length ao cap l.length w (.inl g1)
  by_cases g2 : (4000 : Int) < (l.length : Int)
  · exact ab_big s sc L.length ao cap l.length w (.inr ⟨g1, g2⟩)
  have dec : (∃ K : List A11, AFit K ∧ (∀ W, Below w.heap.size w W → Calls Try.prog 18 #[.slice ao l.length cap] W fun e w' => (∃ r, e = .returned (.tuple #[r, .agg #[.bool false, .int .i64 0, .int .i64 0]]) ∧ ActAt w' r K) ∧ Below W.heap.size W w') ∧ (∀ r W, ActAt W r K → Calls Try.prog 8 #[r] W fun e w' => ∃ r', e = .returned (.tuple #[r', .int .i64 0]) ∧ OwnB w' W.heap.size r' l ∧ Below W.heap.size W w')) ∨ ∃ z : Int, ∀ W, Below w.heap.size w W → Calls Try.prog 18 #[.slice ao l.length cap] W fun e w' => e = .returned (.tuple #[.slice none 0 0, .agg #[.bool true, .int .i64 2, .int .i64 z]]) ∧ Below W.heap.size W w' := by
    rcases acts_all l.length l (Nat.le_refl _) hiB with ⟨K, h1, -⟩ | ⟨z, h1, -⟩
    · by_cases hK : K.length ≤ 100
      · obtain ⟨e1, e2, e3⟩ := aok_all h1
        refine .inl ⟨K, @e2, fun W hW => (ad_ok _ l K W (hB.later hW) h1 hK).mono fun e w' ⟨⟨r, e1, o1⟩, b1⟩ => ⟨⟨r, e1, ActAt.ofOwn o1⟩, b1⟩, fun r W hr => ?_⟩
        have := le_yes r K W hr @e2 hK e3
        rw [e1] at this
        exact this
      · exact .inr ⟨7, fun W hW => ad_many _ l K W (hB.later hW) h1 (by omega)⟩
    · exact .inr ⟨z, fun W hW => ad_bad _ l z W (hB.later hW) h1⟩
  by_cases hr : L.length ≤ 100 ∧ L.all artO = true
  · have q1 := fun W (hW : Below w.heap.size w W) => le_yes _ L W (hL.later hW) @hF hr.1 hr.2
    have qd := fun v W (hv : Bytes W v (encA L)) => (ad_ok v (encA L) L W hv (aok_enc L @hF hr.2) hr.1).mono fun e w' (h : (∃ r, e = .returned (.tuple #[r, .agg #[.bool false, .int .i64 0, .int .i64 0]]) ∧ w'.ownsRow W.heap.size 46 11 r L.length (ads L)) ∧ Below W.heap.size W w') => (⟨(by obtain ⟨⟨r, e1, o1⟩, b1⟩ := h; exact ⟨r, e1, ActAt.ofOwn o1⟩), h.2⟩ : (∃ r, e = .returned (.tuple #[r, .agg #[.bool false, .int .i64 0, .int .i64 0]]) ∧ ActAt w' r L) ∧ Below W.heap.size W w')
    have qs : ∀ r W, ActAt W r L → Below w.heap.size w W → Calls Try.prog 11 #[r, .slice s L.length sc] W fun e w' => e = .returned (.bool true) ∧ Below W.heap.size W w' := fun r W h1 hW => by
      have := lsame_any r _ L L W h1 (hL.later hW)
      rw [sameL_refl] at this
      exact this
    rcases dec with ⟨K, -, q2, q3⟩ | ⟨z, q2⟩
    · exact ab_yo s sc L.length L (encA L) ao cap l K w hB g1 g2 q1 qd qs q2 q3
    · exact ab_yb s sc L.length L (encA L) ao cap l z w hB g1 g2 q1 qd qs q2
  · have q1 : ∀ W, Below w.heap.size w W → Calls Try.prog 8 #[.slice s L.length sc] W fun e w' => e = .returned (.tuple #[.slice none 0 0, .int .i64 1]) ∧ Below W.heap.size W w' := fun W hW => by
      by_cases hb : L.length ≤ 100
      · have hn : L.all artO = false := by
          cases e : L.all artO
          · rfl
          · exact absurd ⟨hb, e⟩ hr
        exact le_no _ L W (hL.later hW) @hF hb hn
      · exact le_big _ L W (hL.later hW) (by omega)
    rcases dec with ⟨K, -, q2, q3⟩ | ⟨z, q2⟩
    · exact ab_no s sc L.length ao cap l K w hB g1 g2 q1 q2 q3
    · exact ab_nb s sc L.length ao cap l z w hB g1 g2 q1 q2

end Go.Proofs.Ytadgppedodlgmaa
