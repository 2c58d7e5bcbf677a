import Derived.Test.YthhijfphfcmniaaGreatJLe
import Derived.Test.YthhijfphfcmniaaGreatXce
import Derived.Test.YthhijfphfcmniaaGreatXhe
import Derived.Test.YthhijfphfcmniaaGreatJPe
import Derived.Deep.RegionHeld3
import Derived.Deep.RegionWith
import Derived.Deep.MidRow
import Derived.Deep.Cut
set_option maxRecDepth 100000
set_option maxHeartbeats 8000000
set_option linter.unusedVariables false
set_option linter.unusedSimpArgs false
namespace Go.Proofs.YthhijfphfcmniaaGreat
open Go Go.RowKit
def isK (k : Int) : Bool := decide (1 ≤ k) && decide (k ≤ 5)
def fitK (k n : Int) : Bool := if k = 2 then decide (n = 24) else if k = 3 ∨ k = 4 then true else decide (n = 8)
theorem refuse3_any (c : Int) (w : World) :
    Calls Tryz.prog 52 #[.int .i64 c] w fun e w' => e = .returned (.agg #[.bool true, .int .i64 3, .int .i64 c]) ∧ Below w.heap.size w w' := by
  have B0 := h_ (below1 w (.cells #[.bool true, .int .i64 3, .int .i64 c] 44))
  go_enter Tryz.func52, Tryz.ntmps52
  go_wp2
  exact bodyPost_ret (v := .agg #[.bool true, .int .i64 3, .int .i64 c]) (by simp [results, Tryz.results52, go_sem]) rfl ⟨rfl, B0.out⟩
theorem isK_any (k : Int) (w : World) :
    Calls Tryz.prog 78 #[.int .i64 k] w fun e w' => e = .returned (.bool (isK k)) ∧ w = w' := by
  unfold isK
  by_cases h1 : 1 ≤ k
  · by_cases h2 : k ≤ 5
    · rw [decide_eq_true h1, decide_eq_true h2]
      go_enter Tryz.func78, Tryz.ntmps78
      go_wp2
      go_ret
      exact ⟨rfl, rfl⟩
    · rw [decide_eq_true h1, decide_eq_false h2]
      go_enter Tryz.func78, Tryz.ntmps78
      go_wp2
      go_ret
      exact ⟨rfl, rfl⟩
  · rw [decide_eq_false h1]
    go_enter Tryz.func78, Tryz.ntmps78
    go_wp2
    go_ret
    exact ⟨rfl, rfl⟩
theorem fitK_any (k n : Int) (w : World) :
    Calls Tryz.prog 90 #[.int .i64 k, .int .i64 n] w fun e w' => e = .returned (.bool (fitK k n)) ∧ w = w' := by
  unfold fitK
  by_cases h2 : k = 2
  · subst h2
    go_enter Tryz.func90, Tryz.ntmps90
    go_wp2
    go_ret
    exact ⟨by first | rfl | simp, rfl⟩
  · by_cases h3 : k = 3
    · subst h3
      go_enter Tryz.func90, Tryz.ntmps90
      go_wp2
      go_ret
      exact ⟨by first | rfl | simp, rfl⟩
    · by_cases h4 : k = 4
      · subst h4
        go_enter Tryz.func90, Tryz.ntmps90
        go_wp2
        go_ret
        exact ⟨by first | rfl | simp, rfl⟩
      · have h34 : ¬ (k = 3 ∨ k = 4) := by omega
        rw [if_neg h2, if_neg h34]
        go_enter Tryz.func90, Tryz.ntmps90
        go_wp2
        go_ret
        exact ⟨by first | rfl | simp, rfl⟩
theorem iwithin_any (a b c d : Nat) (w : World) (ha : a < 18446744073709551616) (hb : b < 18446744073709551616) (hc : c < 18446744073709551616) (hd : d < 18446744073709551616) :
    Calls Tryz.prog 47 #[wd a b, wd c d] w fun e w' => e = .returned (.bool (wi a b c d)) ∧ Below w.heap.size w w' := by
  have q1 := h_ (fun w => less_any a b c d w ha hb hc hd)
  have q2 : Hid (∀ w, Calls Tryz.prog 79 #[wd (andn a c) (andn b d)] w fun e w' => e = .returned (.bool (wi a b c d)) ∧ Below w.heap.size w w') := h_ (fun w => zero_any (andn a c) (andn b d) w)
  generalize wi a b c d = z at *
  generalize andn a c = x at *
  generalize andn b d = y at *
  clear ha hb hc hd
  have HB := h_ (below2 w (.cells #[.int .u64 (a : Int), .int .u64 (b : Int)] 31) (.cells #[.int .u64 (c : Int), .int .u64 (d : Int)] 31))
  unfold wd at *
  go_enter Tryz.func47, Tryz.ntmps47
  go_wp2_with (first | (go_at_call 80; refine (q1.out _).mono ?_; rintro e w1 ⟨rfl, b1⟩) | (go_at_call 79; refine (q2.out _).mono ?_; rintro e w2 ⟨rfl, b2⟩))
  go_ret
  exact ⟨rfl, HB.out.trans ((b1.trans (b2.mono b1.size)).mono HB.out.size)⟩
theorem chk_bad (k t : Int) (a b c d : Nat) (u : Value) (cd : Int) (w : World) (ha : a < 18446744073709551616) (hb : b < 18446744073709551616) (hc : c < 18446744073709551616) (hd : d < 18446744073709551616) (h : (isK k = false ∧ cd = 0) ∨ (k = 1 ∧ (t < 0 ∨ 255 ≤ t) ∧ cd = 2) ∨ (k = 2 ∧ wi a b c d = false ∧ cd = 4)) :
    Calls Tryz.prog 46 #[.agg #[.int .i64 k, .int .i64 t, .int .u64 (a : Int), .int .u64 (b : Int), .int .u64 (c : Int), .int .u64 (d : Int), u]] w fun e w' => e = .returned (.agg #[.bool true, .int .i64 3, .int .i64 cd]) ∧ Below w.heap.size w w' := by
  have qk := h_ (fun w => isK_any k w)
  have qw : Hid (∀ w, Calls Tryz.prog 47 #[.agg #[.int .u64 (a : Int), .int .u64 (b : Int)], .agg #[.int .u64 (c : Int), .int .u64 (d : Int)]] w fun e w' => e = .returned (.bool (wi a b c d)) ∧ Below w.heap.size w w') := h_ (fun w => iwithin_any a b c d w ha hb hc hd)
  have F0 := h_ (AB.at1 w (.cells #[.int .i64 k, .int .i64 t, .int .u64 (a : Int), .int .u64 (b : Int), .int .u64 (c : Int), .int .u64 (d : Int), u] 34) 44 [.bool false, .int .i64 0, .int .i64 0])
  have A0 := h_ ((AB.at0 w 34 [.int .i64 k, .int .i64 t, .int .u64 (a : Int), .int .u64 (b : Int), .int .u64 (c : Int), .int .u64 (d : Int), u]).alloc (.cells #[.bool false, .int .i64 0, .int .i64 0] 44))
  have B0 := h_ (below2 w (.cells #[.int .i64 k, .int .i64 t, .int .u64 (a : Int), .int .u64 (b : Int), .int .u64 (c : Int), .int .u64 (d : Int), u] 34) (.cells #[.bool false, .int .i64 0, .int .i64 0] 44))
  obtain ⟨z, hz⟩ : ∃ z, wi a b c d = z := ⟨_, rfl⟩
  rw [hz] at qw
  clear ha hb hc hd
  rcases h with ⟨hk, rfl⟩ | ⟨rfl, ht, rfl⟩ | ⟨rfl, hw, rfl⟩
  · rw [hk] at qk
    clear hk hz
    go_enter Tryz.func46, Tryz.ntmps46
    go_wp2_with (first | (go_at_call 78; refine (qk.out _).mono ?_; rintro e w1 ⟨rfl, rfl⟩) | (go_at_call 52; refine (refuse3_any 0 _).mono ?_; rintro e w9 ⟨rfl, b9⟩; obtain ⟨s0, s1, s2', s3, s4, s5⟩ := (F0.out.later b9).three; obtain ⟨u0, u1, u2, -⟩ := ((F0.out.later b9).set3 (.bool true) (.int .i64 3) (.int .i64 0)).three; have bb := below_set3 (g := w.heap.size + 1) (B0.out.trans (b9.mono B0.out.size)) (by omega) (.bool true) (.int .i64 3) (.int .i64 0)))
    exact bodyPost_ret (v := .agg #[.bool true, .int .i64 3, .int .i64 0]) (by simp [results, Tryz.results46, go_sem, u0, u1, u2]) rfl ⟨rfl, bb⟩
  · rw [show isK 1 = true from rfl] at qk
    clear hz
    rcases ht with ht | ht
    · skip
      go_enter Tryz.func46, Tryz.ntmps46
      go_wp2_with (first | (go_at_call 78; refine (qk.out _).mono ?_; rintro e w1 ⟨rfl, rfl⟩) | (go_at_call 52; refine (refuse3_any 2 _).mono ?_; rintro e w9 ⟨rfl, b9⟩; obtain ⟨s0, s1, s2', s3, s4, s5⟩ := (F0.out.later b9).three; obtain ⟨u0, u1, u2, -⟩ := ((F0.out.later b9).set3 (.bool true) (.int .i64 3) (.int .i64 2)).three; have bb := below_set3 (g := w.heap.size + 1) (B0.out.trans (b9.mono B0.out.size)) (by omega) (.bool true) (.int .i64 3) (.int .i64 2)))
      exact bodyPost_ret (v := .agg #[.bool true, .int .i64 3, .int .i64 2]) (by simp [results, Tryz.results46, go_sem, u0, u1, u2]) rfl ⟨rfl, bb⟩
    · have ht0 : ¬ t < 0 := by omega
      go_enter Tryz.func46, Tryz.ntmps46
      go_wp2_with (first | (go_at_call 78; refine (qk.out _).mono ?_; rintro e w1 ⟨rfl, rfl⟩) | (go_at_call 52; refine (refuse3_any 2 _).mono ?_; rintro e w9 ⟨rfl, b9⟩; obtain ⟨s0, s1, s2', s3, s4, s5⟩ := (F0.out.later b9).three; obtain ⟨u0, u1, u2, -⟩ := ((F0.out.later b9).set3 (.bool true) (.int .i64 3) (.int .i64 2)).three; have bb := below_set3 (g := w.heap.size + 1) (B0.out.trans (b9.mono B0.out.size)) (by omega) (.bool true) (.int .i64 3) (.int .i64 2)))
      exact bodyPost_ret (v := .agg #[.bool true, .int .i64 3, .int .i64 2]) (by simp [results, Tryz.results46, go_sem, u0, u1, u2]) rfl ⟨rfl, bb⟩
  · rw [show isK 2 = true from rfl] at qk
    rw [hz] at hw
    subst hw
    clear hz
    go_enter Tryz.func46, Tryz.ntmps46
    go_wp2_with (first | (go_at_call 78; refine (qk.out _).mono ?_; rintro e w1 ⟨rfl, rfl⟩) | (go_at_call 47; refine (qw.out _).mono ?_; rintro e w2 ⟨rfl, b2⟩; have k2 := h_ (B0.out.trans (b2.mono B0.out.size)); obtain ⟨s0, s1, s2', s3, s4, s5⟩ := (F0.out.later b2).three; have F2 := h_ (F0.out.later b2)) | (go_at_call 52; refine (refuse3_any 4 _).mono ?_; rintro e w9 ⟨rfl, b9⟩; obtain ⟨s0, s1, s2', s3, s4, s5⟩ := (F2.out.later b9).three; obtain ⟨u0, u1, u2, -⟩ := ((F2.out.later b9).set3 (.bool true) (.int .i64 3) (.int .i64 4)).three; have bb := below_set3 (g := w.heap.size + 1) (k2.out.trans (b9.mono k2.out.size)) (by omega) (.bool true) (.int .i64 3) (.int .i64 4)))
    exact bodyPost_ret (v := .agg #[.bool true, .int .i64 3, .int .i64 4]) (by simp [results, Tryz.results46, go_sem, u0, u1, u2]) rfl ⟨rfl, bb⟩
theorem chk_ok (k t : Int) (a b c d : Nat) (u : Value) (w : World) (ha : a < 18446744073709551616) (hb : b < 18446744073709551616) (hc : c < 18446744073709551616) (hd : d < 18446744073709551616) (hk : isK k = true) (ht : k = 1 → 0 ≤ t ∧ t < 255) (hw : k = 2 → wi a b c d = true) :
    Calls Tryz.prog 46 #[.agg #[.int .i64 k, .int .i64 t, .int .u64 (a : Int), .int .u64 (b : Int), .int .u64 (c : Int), .int .u64 (d : Int), u]] w fun e w' => e = .returned (.agg #[.bool false, .int .i64 0, .int .i64 0]) ∧ Below w.heap.size w w' := by
  have qk := h_ (fun w => isK_any k w)
  have qw : Hid (∀ w, Calls Tryz.prog 47 #[.agg #[.int .u64 (a : Int), .int .u64 (b : Int)], .agg #[.int .u64 (c : Int), .int .u64 (d : Int)]] w fun e w' => e = .returned (.bool (wi a b c d)) ∧ Below w.heap.size w w') := h_ (fun w => iwithin_any a b c d w ha hb hc hd)
  have F0 := h_ (AB.at1 w (.cells #[.int .i64 k, .int .i64 t, .int .u64 (a : Int), .int .u64 (b : Int), .int .u64 (c : Int), .int .u64 (d : Int), u] 34) 44 [.bool false, .int .i64 0, .int .i64 0])
  have A0 := h_ ((AB.at0 w 34 [.int .i64 k, .int .i64 t, .int .u64 (a : Int), .int .u64 (b : Int), .int .u64 (c : Int), .int .u64 (d : Int), u]).alloc (.cells #[.bool false, .int .i64 0, .int .i64 0] 44))
  have B0 := h_ (below2 w (.cells #[.int .i64 k, .int .i64 t, .int .u64 (a : Int), .int .u64 (b : Int), .int .u64 (c : Int), .int .u64 (d : Int), u] 34) (.cells #[.bool false, .int .i64 0, .int .i64 0] 44))
  obtain ⟨z, hz⟩ : ∃ z, wi a b c d = z := ⟨_, rfl⟩
  rw [hz] at qw
  clear ha hb hc hd
  rw [hk] at qk
  obtain ⟨s0, s1, s2', s3, s4, s5⟩ := F0.out.three
  obtain ⟨u0, u1, u2, -⟩ := (F0.out.set3 (.bool false) (.int .i64 0) (.int .i64 0)).three
  have bb := below_set3 (g := w.heap.size + 1) B0.out (by omega) (.bool false) (.int .i64 0) (.int .i64 0)
  by_cases h1 : k = 1
  · subst h1
    obtain ⟨t1, t2⟩ := ht rfl
    have t3 : ¬ t < 0 := by omega
    have t4 : ¬ 255 ≤ t := by omega
    clear hk ht hw hz
    go_enter Tryz.func46, Tryz.ntmps46
    go_wp2_with (go_at_call 78; refine (qk.out _).mono ?_; rintro e w1 ⟨rfl, rfl⟩)
    exact bodyPost_ret (v := .agg #[.bool false, .int .i64 0, .int .i64 0]) (by simp [results, Tryz.results46, go_sem, u0, u1, u2]) rfl ⟨rfl, by first | exact bb | exact B0.out⟩
  · by_cases h2 : k = 2
    · subst h2
      have hzt : z = true := by rw [← hz]; exact hw rfl
      subst hzt
      clear hk ht hw hz s0 s1 s2' s3 s4 s5 u0 u1 u2 bb
      go_enter Tryz.func46, Tryz.ntmps46
      go_wp2_with (first | (go_at_call 78; refine (qk.out _).mono ?_; rintro e w1 ⟨rfl, rfl⟩) | (go_at_call 47; refine (qw.out _).mono ?_; rintro e w2 ⟨rfl, b2⟩; have k2 := h_ (B0.out.trans (b2.mono B0.out.size)); obtain ⟨s0, s1, s2', s3, s4, s5⟩ := (F0.out.later b2).three; have F2 := h_ (F0.out.later b2); obtain ⟨u0, u1, u2, -⟩ := ((F0.out.later b2).set3 (.bool false) (.int .i64 0) (.int .i64 0)).three; have bb := below_set3 (g := w.heap.size + 1) k2.out (by omega) (.bool false) (.int .i64 0) (.int .i64 0)))
      exact bodyPost_ret (v := .agg #[.bool false, .int .i64 0, .int .i64 0]) (by simp [results, Tryz.results46, go_sem, u0, u1, u2]) rfl ⟨rfl, by first | exact bb | exact B0.out⟩
    · clear hk ht hw hz
      go_enter Tryz.func46, Tryz.ntmps46
      go_wp2_with (go_at_call 78; refine (qk.out _).mono ?_; rintro e w1 ⟨rfl, rfl⟩)
      exact bodyPost_ret (v := .agg #[.bool false, .int .i64 0, .int .i64 0]) (by simp [results, Tryz.results46, go_sem, u0, u1, u2]) rfl ⟨rfl, by first | exact bb | exact B0.out⟩
end Go.Proofs.YthhijfphfcmniaaGreat
namespace Go.Proofs.YthhijfphfcmniaaGreat
open Go Go.RowKit
abbrev I6 := Int × Int × (Nat × Nat) × (Nat × Nat) × List A11
def sameI (x y : I6) : Bool := decide (x.1 = y.1) && (decide (x.2.1 = y.2.1) && (decide (x.2.2.1 = y.2.2.1) && (decide (x.2.2.2.1 = y.2.2.2.1) && sameL x.2.2.2.2 y.2.2.2.2)))
theorem isame_any (k t : Int) (a b c d : Nat) (u : Value) (L : List A11) (k2 t2 : Int) (a2 b2 c2 d2 : Nat) (u2 : Value) (K : List A11) (w : World) (hL : ActAt w u L) (hK : ActAt w u2 K) :
    Calls Tryz.prog 44 #[.agg #[.int .i64 k, .int .i64 t, .int .u64 (a : Int), .int .u64 (b : Int), .int .u64 (c : Int), .int .u64 (d : Int), u], .agg #[.int .i64 k2, .int .i64 t2, .int .u64 (a2 : Int), .int .u64 (b2 : Int), .int .u64 (c2 : Int), .int .u64 (d2 : Int), u2]] w fun e w' => e = .returned (.bool (sameI (k, t, (a, b), (c, d), L) (k2, t2, (a2, b2), (c2, d2), K))) ∧ Below w.heap.size w w' := by
  have q := h_ (fun W (hW : Below w.heap.size w W) => lsame_any u u2 L K W (hL.later hW) (hK.later hW))
  have B0 := h_ (below2 w (.cells #[.int .i64 k, .int .i64 t, .int .u64 (a : Int), .int .u64 (b : Int), .int .u64 (c : Int), .int .u64 (d : Int), u] 34) (.cells #[.int .i64 k2, .int .i64 t2, .int .u64 (a2 : Int), .int .u64 (b2 : Int), .int .u64 (c2 : Int), .int .u64 (d2 : Int), u2] 34))
  have e : sameI (k, t, (a, b), (c, d), L) (k2, t2, (a2, b2), (c2, d2), K) = (decide (k = k2) && (decide (t = t2) && (decide ((a, b) = (a2, b2)) && (decide ((c, d) = (c2, d2)) && sameL L K)))) := rfl
  rw [e]
  clear e hL hK
  generalize sameL L K = z at *
  by_cases h1 : k = k2
  · by_cases h2 : t = t2
    · subst h1 h2
      by_cases h3 : a = a2
      · by_cases h4 : b = b2
        · subst h3 h4
          by_cases h5 : c = c2
          · by_cases h6 : d = d2
            · subst h5 h6
              rw [decide_eq_true rfl, decide_eq_true rfl, decide_eq_true rfl, decide_eq_true rfl]
              simp only [Bool.true_and]
              go_enter Tryz.func44, Tryz.ntmps44
              go_wp2_with (go_at_call 77; refine (q.out _ B0.out).mono ?_; rintro e w9 ⟨rfl, b9⟩)
              go_ret
              exact ⟨by first | rfl | simp, B0.out.trans (b9.mono B0.out.size)⟩
            · have hn : ¬ ((d : Int) = (d2 : Int)) := by omega
              subst h5
              rw [decide_eq_false (fun e => h6 (Prod.mk.inj e).2) (p := (c, d) = (c, d2))]
              simp only [Bool.false_and, Bool.and_false]
              go_enter Tryz.func44, Tryz.ntmps44
              go_wp2
              go_ret
              exact ⟨by first | rfl | simp, B0.out⟩
          · have hn : ¬ ((c : Int) = (c2 : Int)) := by omega
            rw [decide_eq_false (fun e => h5 (Prod.mk.inj e).1) (p := (c, d) = (c2, d2))]
            simp only [Bool.false_and, Bool.and_false]
            go_enter Tryz.func44, Tryz.ntmps44
            go_wp2
            go_ret
            exact ⟨by first | rfl | simp, B0.out⟩
        · have hn : ¬ ((b : Int) = (b2 : Int)) := by omega
          subst h3
          rw [decide_eq_false (fun e => h4 (Prod.mk.inj e).2) (p := (a, b) = (a, b2))]
          simp only [Bool.false_and, Bool.and_false]
          go_enter Tryz.func44, Tryz.ntmps44
          go_wp2
          go_ret
          exact ⟨by first | rfl | simp, B0.out⟩
      · have hn : ¬ ((a : Int) = (a2 : Int)) := by omega
        rw [decide_eq_false (fun e => h3 (Prod.mk.inj e).1) (p := (a, b) = (a2, b2))]
        simp only [Bool.false_and, Bool.and_false]
        go_enter Tryz.func44, Tryz.ntmps44
        go_wp2
        go_ret
        exact ⟨by first | rfl | simp, B0.out⟩
    · subst h1
      rw [decide_eq_false h2]
      simp only [Bool.false_and, Bool.and_false]
      go_enter Tryz.func44, Tryz.ntmps44
      go_wp2
      go_ret
      exact ⟨by first | rfl | simp, B0.out⟩
  · rw [decide_eq_false h1]
    simp only [Bool.false_and]
    go_enter Tryz.func44, Tryz.ntmps44
    go_wp2
    go_ret
    exact ⟨by first | rfl | simp, B0.out⟩
end Go.Proofs.YthhijfphfcmniaaGreat
namespace Go.Proofs.YthhijfphfcmniaaGreat
open Go Go.RowKit
theorem own_1 (k t : Int) (a b c d : Nat) (u : Value) (w : World) (hk : k = 1) :
    Calls Tryz.prog 45 #[.agg #[.int .i64 k, .int .i64 t, .int .u64 (a : Int), .int .u64 (b : Int), .int .u64 (c : Int), .int .u64 (d : Int), u]] w fun e w' => e = .returned (.agg #[.int .i64 k, .int .i64 t, .int .u64 0, .int .u64 0, .int .u64 0, .int .u64 0, .slice none 0 0]) ∧ Below w.heap.size w w' := by
  subst hk
  go_enter Tryz.func45, Tryz.ntmps45
  go_wp2
  exact bodyPost_ret (by simp [results, Tryz.results45, go_sem]) rfl ⟨rfl, ((Below.refl _ _).alloc (Nat.le_refl _) _ |>.alloc (by simp) _ |>.alloc (by simp; omega) _)⟩
theorem own_34 (k t : Int) (a b c d : Nat) (u : Value) (w : World) (us : Option Addr) (un uc : Nat) (hu : u = .slice us un uc) (hk : k = 3 ∨ k = 4) :
    Calls Tryz.prog 45 #[.agg #[.int .i64 k, .int .i64 t, .int .u64 (a : Int), .int .u64 (b : Int), .int .u64 (c : Int), .int .u64 (d : Int), u]] w fun e w' => e = .returned (.agg #[.int .i64 k, .int .i64 0, .int .u64 0, .int .u64 0, .int .u64 0, .int .u64 0, u]) ∧ Below w.heap.size w w' := by
  subst hu
  rcases hk with rfl | rfl
  · skip
    go_enter Tryz.func45, Tryz.ntmps45
    go_wp2
    exact bodyPost_ret (by simp [results, Tryz.results45, go_sem]) rfl ⟨rfl, ((Below.refl _ _).alloc (Nat.le_refl _) _ |>.alloc (by simp) _ |>.alloc (by simp; omega) _)⟩
  · skip
    go_enter Tryz.func45, Tryz.ntmps45
    go_wp2
    exact bodyPost_ret (by simp [results, Tryz.results45, go_sem]) rfl ⟨rfl, ((Below.refl _ _).alloc (Nat.le_refl _) _ |>.alloc (by simp) _ |>.alloc (by simp; omega) _)⟩
theorem own_no (k t : Int) (a b c d : Nat) (u : Value) (w : World) (h1 : ¬ k = 1) (h2 : ¬ k = 2) (h3 : ¬ k = 3) (h4 : ¬ k = 4) :
    Calls Tryz.prog 45 #[.agg #[.int .i64 k, .int .i64 t, .int .u64 (a : Int), .int .u64 (b : Int), .int .u64 (c : Int), .int .u64 (d : Int), u]] w fun e w' => e = .returned (.agg #[.int .i64 k, .int .i64 0, .int .u64 0, .int .u64 0, .int .u64 0, .int .u64 0, .slice none 0 0]) ∧ Below w.heap.size w w' := by
  go_enter Tryz.func45, Tryz.ntmps45
  go_wp2
  exact bodyPost_ret (by simp [results, Tryz.results45, go_sem]) rfl ⟨rfl, ((Below.refl _ _).alloc (Nat.le_refl _) _ |>.alloc (by simp) _ |>.alloc (by simp; omega) _)⟩
end Go.Proofs.YthhijfphfcmniaaGreat
namespace Go.Proofs.YthhijfphfcmniaaGreat
open Go Go.RowKit
theorem AB.k7 {w : World} {n : Nat} {ty : TypeId} {c0 c1 c2 c3 c4 c5 c6 : Value} (h : AB w n ty [c0, c1, c2, c3, c4, c5, c6]) : w.cell? ⟨n, 0, none⟩ = some c0 ∧ w.cell? ⟨n, 1, none⟩ = some c1 ∧ w.cell? ⟨n, 2, none⟩ = some c2 ∧ w.cell? ⟨n, 3, none⟩ = some c3 ∧ w.cell? ⟨n, 4, none⟩ = some c4 ∧ w.cell? ⟨n, 5, none⟩ = some c5 ∧ w.cell? ⟨n, 6, none⟩ = some c6 ∧ w.frozen? ⟨n, 0, none⟩ = false ∧ w.frozen? ⟨n, 1, none⟩ = false ∧ w.frozen? ⟨n, 2, none⟩ = false ∧ w.frozen? ⟨n, 3, none⟩ = false ∧ w.frozen? ⟨n, 4, none⟩ = false ∧ w.frozen? ⟨n, 5, none⟩ = false ∧ w.frozen? ⟨n, 6, none⟩ = false :=
  ⟨(h.cell (j := 0) rfl).1, (h.cell (j := 1) rfl).1, (h.cell (j := 2) rfl).1, (h.cell (j := 3) rfl).1, (h.cell (j := 4) rfl).1, (h.cell (j := 5) rfl).1, (h.cell (j := 6) rfl).1, (h.cell (j := 0) rfl).2, (h.cell (j := 1) rfl).2, (h.cell (j := 2) rfl).2, (h.cell (j := 3) rfl).2, (h.cell (j := 4) rfl).2, (h.cell (j := 5) rfl).2, (h.cell (j := 6) rfl).2⟩
theorem AB.set7 {w : World} {n : Nat} {ty : TypeId} {c0 c1 c2 c3 c4 c5 c6 : Value} (h : AB w n ty [c0, c1, c2, c3, c4, c5, c6]) (x0 x1 x2 x3 x4 x5 x6 : Value) : AB (((((((w.setCell ⟨n, 0, none⟩ (x0)).setCell ⟨n, 1, none⟩ (x1)).setCell ⟨n, 2, none⟩ (x2)).setCell ⟨n, 3, none⟩ (x3)).setCell ⟨n, 4, none⟩ (x4)).setCell ⟨n, 5, none⟩ (x5)).setCell ⟨n, 6, none⟩ (x6)) n ty [x0, x1, x2, x3, x4, x5, x6] := ((((((h.set (j := 0) x0).set (j := 1) x1).set (j := 2) x2).set (j := 3) x3).set (j := 4) x4).set (j := 5) x5).set (j := 6) x6
theorem below_set7 {w0 w : World} {n m : Nat} (h : Below m w0 w) (hg : m ≤ n) (x0 x1 x2 x3 x4 x5 x6 : Value) : Below m w0 (((((((w.setCell ⟨n, 0, none⟩ (x0)).setCell ⟨n, 1, none⟩ (x1)).setCell ⟨n, 2, none⟩ (x2)).setCell ⟨n, 3, none⟩ (x3)).setCell ⟨n, 4, none⟩ (x4)).setCell ⟨n, 5, none⟩ (x5)).setCell ⟨n, 6, none⟩ (x6)) := ((((((h.setCell hg x0).setCell hg x1).setCell hg x2).setCell hg x3).setCell hg x4).setCell hg x5).setCell hg x6
theorem own_2 (k t : Int) (a b c d : Nat) (u : Value) (w : World) (hk : k = 2) :
    Calls Tryz.prog 45 #[.agg #[.int .i64 k, .int .i64 t, .int .u64 (a : Int), .int .u64 (b : Int), .int .u64 (c : Int), .int .u64 (d : Int), u]] w fun e w' => e = .returned (.agg #[.int .i64 2, .int .i64 0, .int .u64 (a : Int), .int .u64 (b : Int), .int .u64 (c : Int), .int .u64 (d : Int), .slice none 0 0]) ∧ Below w.heap.size w w' := by
  subst hk
  have B0 : Hid (Below w.heap.size w (((w.alloc (.cells #[.int .i64 2, .int .i64 t, .int .u64 (a : Int), .int .u64 (b : Int), .int .u64 (c : Int), .int .u64 (d : Int), u] 34)).alloc (.cells #[.int .i64 0, .int .i64 0, .int .u64 0, .int .u64 0, .int .u64 0, .int .u64 0, .slice none 0 0] 34)).alloc (.cells #[.int .i64 2, .int .i64 0, .int .u64 0, .int .u64 0, .int .u64 0, .int .u64 0, .slice none 0 0] 34))) := h_ ((Below.refl _ _).alloc (Nat.le_refl _) _ |>.alloc (by simp) _ |>.alloc (by simp; omega) _)
  have A1 : Hid (AB (((w.alloc (.cells #[.int .i64 2, .int .i64 t, .int .u64 (a : Int), .int .u64 (b : Int), .int .u64 (c : Int), .int .u64 (d : Int), u] 34)).alloc (.cells #[.int .i64 0, .int .i64 0, .int .u64 0, .int .u64 0, .int .u64 0, .int .u64 0, .slice none 0 0] 34)).alloc (.cells #[.int .i64 2, .int .i64 0, .int .u64 0, .int .u64 0, .int .u64 0, .int .u64 0, .slice none 0 0] 34)) w.heap.size 34 [.int .i64 2, .int .i64 t, .int .u64 (a : Int), .int .u64 (b : Int), .int .u64 (c : Int), .int .u64 (d : Int), u]) := h_ (((AB.at0 w 34 [.int .i64 2, .int .i64 t, .int .u64 (a : Int), .int .u64 (b : Int), .int .u64 (c : Int), .int .u64 (d : Int), u]).alloc (.cells #[.int .i64 0, .int .i64 0, .int .u64 0, .int .u64 0, .int .u64 0, .int .u64 0, .slice none 0 0] 34)).alloc (.cells #[.int .i64 2, .int .i64 0, .int .u64 0, .int .u64 0, .int .u64 0, .int .u64 0, .slice none 0 0] 34))
  have A2 : Hid (AB (((w.alloc (.cells #[.int .i64 2, .int .i64 t, .int .u64 (a : Int), .int .u64 (b : Int), .int .u64 (c : Int), .int .u64 (d : Int), u] 34)).alloc (.cells #[.int .i64 0, .int .i64 0, .int .u64 0, .int .u64 0, .int .u64 0, .int .u64 0, .slice none 0 0] 34)).alloc (.cells #[.int .i64 2, .int .i64 0, .int .u64 0, .int .u64 0, .int .u64 0, .int .u64 0, .slice none 0 0] 34)) (w.heap.size + 1) 34 [.int .i64 0, .int .i64 0, .int .u64 0, .int .u64 0, .int .u64 0, .int .u64 0, .slice none 0 0]) := h_ ((AB.at1 w (.cells #[.int .i64 2, .int .i64 t, .int .u64 (a : Int), .int .u64 (b : Int), .int .u64 (c : Int), .int .u64 (d : Int), u] 34) 34 [.int .i64 0, .int .i64 0, .int .u64 0, .int .u64 0, .int .u64 0, .int .u64 0, .slice none 0 0]).alloc (.cells #[.int .i64 2, .int .i64 0, .int .u64 0, .int .u64 0, .int .u64 0, .int .u64 0, .slice none 0 0] 34))
  have A3 : Hid (AB (((w.alloc (.cells #[.int .i64 2, .int .i64 t, .int .u64 (a : Int), .int .u64 (b : Int), .int .u64 (c : Int), .int .u64 (d : Int), u] 34)).alloc (.cells #[.int .i64 0, .int .i64 0, .int .u64 0, .int .u64 0, .int .u64 0, .int .u64 0, .slice none 0 0] 34)).alloc (.cells #[.int .i64 2, .int .i64 0, .int .u64 0, .int .u64 0, .int .u64 0, .int .u64 0, .slice none 0 0] 34)) (w.heap.size + 1 + 1) 34 [.int .i64 2, .int .i64 0, .int .u64 0, .int .u64 0, .int .u64 0, .int .u64 0, .slice none 0 0]) := h_ (by have := AB.at0 ((w.alloc (.cells #[.int .i64 2, .int .i64 t, .int .u64 (a : Int), .int .u64 (b : Int), .int .u64 (c : Int), .int .u64 (d : Int), u] 34)).alloc (.cells #[.int .i64 0, .int .i64 0, .int .u64 0, .int .u64 0, .int .u64 0, .int .u64 0, .slice none 0 0] 34)) 34 [.int .i64 2, .int .i64 0, .int .u64 0, .int .u64 0, .int .u64 0, .int .u64 0, .slice none 0 0]; simpa using this)
  go_enter Tryz.func45, Tryz.ntmps45
  go_upto_region 6 with fail
  refine wp_region_held_drew (S := (fun w' => AB w' w.heap.size 34 [.int .i64 2, .int .i64 t, .int .u64 (a : Int), .int .u64 (b : Int), .int .u64 (c : Int), .int .u64 (d : Int), u] ∧ AB w' (w.heap.size + 1) 34 [.int .i64 0, .int .i64 0, .int .u64 0, .int .u64 0, .int .u64 0, .int .u64 0, .slice none 0 0] ∧ Below w.heap.size w w')) (by kernel_rfl) (⟨A1.out, A2.out, B0.out.drew⟩) (fun hHeld => ?_)
  have A3 : Hid (AB (((w.alloc (.cells #[.int .i64 2, .int .i64 t, .int .u64 (a : Int), .int .u64 (b : Int), .int .u64 (c : Int), .int .u64 (d : Int), u] 34)).alloc (.cells #[.int .i64 0, .int .i64 0, .int .u64 0, .int .u64 0, .int .u64 0, .int .u64 0, .slice none 0 0] 34)).alloc (.cells #[.int .i64 2, .int .i64 0, .int .u64 0, .int .u64 0, .int .u64 0, .int .u64 0, .slice none 0 0] 34)).drew (w.heap.size + 1 + 1) 34 [.int .i64 2, .int .i64 0, .int .u64 0, .int .u64 0, .int .u64 0, .int .u64 0, .slice none 0 0]) := A3
  generalize (((w.alloc (.cells #[.int .i64 2, .int .i64 t, .int .u64 (a : Int), .int .u64 (b : Int), .int .u64 (c : Int), .int .u64 (d : Int), u] 34)).alloc (.cells #[.int .i64 0, .int .i64 0, .int .u64 0, .int .u64 0, .int .u64 0, .int .u64 0, .slice none 0 0] 34)).alloc (.cells #[.int .i64 2, .int .i64 0, .int .u64 0, .int .u64 0, .int .u64 0, .int .u64 0, .slice none 0 0] 34)).drew = D at *
  refine tR 0 ?_ (some 16) rfl (by kernel_rfl) rfl (by rfl) ?_ (fun _ _ _ h => h) (by assumption) ?_
  rotate_left
  · intro w hSw; (try dsimp only at hSw); go_simp; (try with_reducible rfl)
  simp only [Act.put, sIb, sCz, sCs]
  refine tR 1 ?_ (some 17) rfl (by kernel_rfl) rfl (by rfl) ?_ (fun _ _ _ h => h) (by assumption) ?_
  rotate_left
  · intro w hSw; (try dsimp only at hSw); have cc2 := (hSw.1.cell (j := 2) rfl).1; have cc3 := (hSw.1.cell (j := 3) rfl).1; go_simp; (try with_reducible rfl)
  simp only [Act.put, sIb, sCz, sCs]
  refine tR 2 ?_ (some 18) rfl (by kernel_rfl) rfl (by rfl) ?_ (fun _ _ _ h => h) (by assumption) ?_
  rotate_left
  · intro w hSw; (try dsimp only at hSw); go_simp; (try with_reducible rfl)
  simp only [Act.put, sIb, sCz, sCs]
  refine tR 3 ?_ (some 19) rfl (by kernel_rfl) rfl (by rfl) ?_ (fun _ _ _ h => h) (by assumption) ?_
  rotate_left
  · intro w hSw; (try dsimp only at hSw); have cc4 := (hSw.1.cell (j := 4) rfl).1; have cc5 := (hSw.1.cell (j := 5) rfl).1; go_simp; (try with_reducible rfl)
  simp only [Act.put, sIb, sCz, sCs]
  refine tR 4 ?_ (some 20) rfl (by kernel_rfl) rfl (by rfl) ?_ (fun _ _ _ h => h) (by assumption) ?_
  rotate_left
  · intro w hSw; (try dsimp only at hSw); go_simp; (try with_reducible rfl)
  simp only [Act.put, sIb, sCz, sCs]
  refine wpAnyH_ready (rs := [5]) (by kernel_rfl) (by simp) ?_
  refine AllReadyH.cons rfl (fun K hK => ?_) (AllReadyH.nil)
  obtain ⟨t0, t1, t2, t3, t4, t5, t6, t7, t8, t9, t10, t11, t12, t13⟩ := A3.out.k7
  go_simp
  refine hK.out _ _ (⟨(hHeld.1.far _ (by omega)).far _ (by omega), (hHeld.2.1.far _ (by omega)).far _ (by omega), (hHeld.2.2.setCell (by dsimp only; omega) _).setCell (by dsimp only; omega) _⟩) (fun hHeld => ?_)
  clear hK K
  try simp only [Act.put, sIb, sCz, sCs]
  refine tR 6 ?_ (some 21) rfl (by kernel_rfl) rfl (by rfl) ?_ (fun _ _ _ h => h) (by assumption) ?_
  rotate_left
  · intro w hSw; (try dsimp only at hSw); go_simp; (try with_reducible rfl)
  simp only [Act.put, sIb, sCz, sCs]
  refine wpAnyH_ready (rs := [7]) (by kernel_rfl) (by simp) ?_
  refine AllReadyH.cons rfl (fun K hK => ?_) (AllReadyH.nil)
  have A4 : Hid (AB ((D.setCell ⟨w.heap.size + 1 + 1, 2, none⟩ (.int .u64 (a : Int))).setCell ⟨w.heap.size + 1 + 1, 3, none⟩ (.int .u64 (b : Int))) (w.heap.size + 1 + 1) 34 [.int .i64 2, .int .i64 0, .int .u64 (a : Int), .int .u64 (b : Int), .int .u64 0, .int .u64 0, .slice none 0 0]) := h_ ((A3.out.set (j := 2) _).set (j := 3) _)
  obtain ⟨t0, t1, t2, t3, t4, t5, t6, t7, t8, t9, t10, t11, t12, t13⟩ := A4.out.k7
  go_simp
  refine hK.out _ _ (⟨(hHeld.1.far _ (by omega)).far _ (by omega), (hHeld.2.1.far _ (by omega)).far _ (by omega), (hHeld.2.2.setCell (by dsimp only; omega) _).setCell (by dsimp only; omega) _⟩) (fun hHeld => ?_)
  clear hK K
  try simp only [Act.put, sIb, sCz, sCs]
  refine wpAnyH_done (by kernel_rfl) ?_ _
  have A5 : Hid (AB ((((D.setCell ⟨w.heap.size + 1 + 1, 2, none⟩ (.int .u64 (a : Int))).setCell ⟨w.heap.size + 1 + 1, 3, none⟩ (.int .u64 (b : Int))).setCell ⟨w.heap.size + 1 + 1, 4, none⟩ (.int .u64 (c : Int))).setCell ⟨w.heap.size + 1 + 1, 5, none⟩ (.int .u64 (d : Int))) (w.heap.size + 1 + 1) 34 [.int .i64 2, .int .i64 0, .int .u64 (a : Int), .int .u64 (b : Int), .int .u64 (c : Int), .int .u64 (d : Int), .slice none 0 0]) := h_ ((((A3.out.set (j := 2) _).set (j := 3) _).set (j := 4) _).set (j := 5) _)
  obtain ⟨hA1, hA2, kb⟩ := hHeld
  generalize ((((D.setCell ⟨w.heap.size + 1 + 1, 2, none⟩ (.int .u64 (a : Int))).setCell ⟨w.heap.size + 1 + 1, 3, none⟩ (.int .u64 (b : Int))).setCell ⟨w.heap.size + 1 + 1, 4, none⟩ (.int .u64 (c : Int))).setCell ⟨w.heap.size + 1 + 1, 5, none⟩ (.int .u64 (d : Int))) = Y at *
  obtain ⟨t0, t1, t2, t3, t4, t5, t6, t7, t8, t9, t10, t11, t12, t13⟩ := A5.out.k7
  obtain ⟨s0, s1, s2, s3, s4, s5, s6, s7, s8, s9, s10, s11, s12, s13⟩ := hA2.k7
  obtain ⟨u0, u1, u2, u3, u4, u5, u6, -⟩ := (hA2.set7 (.int .i64 2) (.int .i64 0) (.int .u64 (a : Int)) (.int .u64 (b : Int)) (.int .u64 (c : Int)) (.int .u64 (d : Int)) (.slice none 0 0)).k7
  have bb := below_set7 kb (Nat.le_succ _) (.int .i64 2) (.int .i64 0) (.int .u64 (a : Int)) (.int .u64 (b : Int)) (.int .u64 (c : Int)) (.int .u64 (d : Int)) (.slice none 0 0)
  go_wp2_with fail
  exact bodyPost_ret (v := .agg #[.int .i64 2, .int .i64 0, .int .u64 (a : Int), .int .u64 (b : Int), .int .u64 (c : Int), .int .u64 (d : Int), .slice none 0 0]) (by simp [results, Tryz.results45, go_sem, u0, u1, u2, u3, u4, u5, u6]) rfl ⟨rfl, bb⟩
end Go.Proofs.YthhijfphfcmniaaGreat
namespace Go.Proofs.YthhijfphfcmniaaGreat
open Go Go.RowKit
theorem cloI_any (z : Int) (w : World) :
    Calls Tryz.prog 122 #[.int .u8 z] w fun e w' => e = .returned (.bool (z != 0)) ∧ w' = w := by
  go_enter Tryz.func122, Tryz.ntmps122
  go_wp2_with fail
  go_ret
  exact ⟨rfl, rfl⟩
theorem idxI_any (v : Value) (l : List Int) (w : World) (hB : Bytes w v l) :
    Calls Tryz.prog 141 #[v, (.func (.func 122) #[] #[])] w fun e w' => (∃ i : Int, e = .returned (.int .i64 i) ∧ (decide (0 ≤ i)) = nzB l) ∧ Below w.heap.size w w' := by
  obtain ⟨ao, cap, rfl, h1, h2, h3, h4, h5⟩ := hB
  have hB : Bytes w (.slice ao l.length cap) l := ⟨ao, cap, rfl, h1, h2, h3, h4, h5⟩
  obtain ⟨-, -, -, hat⟩ := Bytes.at hB
  have H := h_ hat
  have hm : l.length ≤ 9223372036854775807 := by unfold maxLen at h2; omega
  clear hat hB h1 h2 h3 h4 h5
  go_enter Tryz.func141, Tryz.ntmps141
  go_wp2
  go_loopw [5, 8] (fun _ i wr => ∃ k : Nat, k ≤ l.length ∧ i = .int .i64 k ∧ Hid (nzB (l.take k) = false) ∧ Below w.heap.size w wr) (fun _ i _ => l.length - (intOf i).toNat)
  case atStart => exact ⟨0, Nat.zero_le _, rfl, rfl, Below.refl _ _⟩
  case round =>
    obtain ⟨k, hk, rfl, HT, hb⟩ := hrel
    by_cases hlt : k < l.length
    · obtain ⟨z, hz⟩ : ∃ z, l[k]? = some z := ⟨_, List.getElem?_eq_getElem hlt⟩
      obtain ⟨b, off, rfl, c1⟩ := H.out k z hz
      have c1 := cell_later hb c1
      have HZ := h_ hz
      clear hz
      have hlt' : (k : Int) < (l.length : Int) := by omega
      by_cases h0 : z = 0
      · subst h0
        go_wp2_with (go_at_call 122; refine (cloI_any _ _).mono ?_; rintro e w' ⟨rfl, rfl⟩)
        go_roundw
        case rel => exact ⟨k + 1, by omega, by go_num, by show _ = _; rw [List.take_add_one, HZ.out]; unfold nzB at *; rw [List.any_append, HT.out]; rfl, hb⟩
        case measure => simp [intOf]; omega
      · have hne : (z != 0) = true := by simpa using h0
        have H0 := h_ h0
        clear h0
        go_wp2_with (go_at_call 122; refine (cloI_any _ _).mono ?_; rintro e w' ⟨rfl, rfl⟩)
        go_ret
        refine ⟨⟨_, rfl, ?_⟩, hb⟩
        have e1 : nzB l = true := by
          unfold nzB
          rw [List.any_eq_true]
          exact ⟨z, List.mem_of_getElem? HZ.out, by simpa using H0.out⟩
        rw [e1]
        simp
    · have hlt' : ¬ (k : Int) < (l.length : Int) := by omega
      go_wp2
      go_ret
      refine ⟨⟨_, rfl, ?_⟩, hb⟩
      have e := HT.out
      rw [List.take_of_length_le (by omega)] at e
      rw [e]
      rfl
theorem contI_any (v : Value) (l : List Int) (w : World) (hB : Bytes w v l) :
    Calls Tryz.prog 121 #[v, (.func (.func 122) #[] #[])] w fun e w' => e = .returned (.bool (nzB l)) ∧ Below w.heap.size w w' := by
  have q := h_ (idxI_any v l w hB)
  generalize nzB l = z at *
  clear hB
  go_enter Tryz.func121, Tryz.ntmps121
  go_wp2_with (go_at_call 141; refine q.out.mono ?_; rintro e w1 ⟨⟨i, rfl, hi⟩, b1⟩)
  go_ret
  exact ⟨by rw [← hi]; rfl, b1⟩
def nouI (k : Int) (l : List Int) : Bool := !nzB ((l.take 8).drop (if k = 1 then 5 else 4))
theorem inoughts_any (k : Int) (v : Value) (l : List Int) (w : World) (hB : Bytes w v l) (h8 : 8 ≤ l.length) :
    Calls Tryz.prog 91 #[.int .i64 k, v] w fun e w' => e = .returned (.bool (nouI k l)) ∧ Below w.heap.size w w' := by
  obtain ⟨ao, cap, rfl⟩ := hB.short
  unfold nouI
  by_cases hk : k = 1
  · subst hk
    obtain ⟨a5, sl5, b5⟩ := bytes_mid hB 5 8 (by decide) h8
    have sl5 : ∀ wx, (Instr.slice 25 (.slice ao l.length cap) (some (.int .i64 5)) (some (.int .i64 8)) none).run Tryz.prog wx = .ok (.slice a5 3 (cap - 5)) wx := sl5
    have q := h_ (contI_any _ _ w b5)
    rw [if_pos rfl]
    generalize nzB ((l.take 8).drop 5) = z at *
    clear b5 hB h8
    go_enter Tryz.func91, Tryz.ntmps91
    go_wp2_with (go_at_call 121; refine q.out.mono ?_; rintro e w1 ⟨rfl, b1⟩)
    go_ret
    exact ⟨by first | rfl | simp, b1⟩
  · obtain ⟨a4, sl4, b4⟩ := bytes_mid hB 4 8 (by decide) h8
    have sl4 : ∀ wx, (Instr.slice 25 (.slice ao l.length cap) (some (.int .i64 4)) (some (.int .i64 8)) none).run Tryz.prog wx = .ok (.slice a4 4 (cap - 4)) wx := sl4
    have q := h_ (contI_any _ _ w b4)
    rw [if_neg hk]
    generalize nzB ((l.take 8).drop 4) = z at *
    clear b4 hB h8
    go_enter Tryz.func91, Tryz.ntmps91
    go_wp2_with (go_at_call 121; refine q.out.mono ?_; rintro e w1 ⟨rfl, b1⟩)
    go_ret
    exact ⟨by first | rfl | simp, b1⟩
end Go.Proofs.YthhijfphfcmniaaGreat
namespace Go.Proofs.YthhijfphfcmniaaGreat
open Go Go.RowKit
theorem rh_short (v : Value) (l : List Int) (k : Int) (N : Nat) (w : World) (hB : Bytes w v l) (hK : be2 l 0 = k) (hN : be2 l 2 = (N : Int)) (h8 : l.length < 8) :
    Calls Tryz.prog 51 #[v] w fun e w' => e = .returned (.tuple #[.int .i64 0, .int .i64 0, .agg #[.bool true, .int .i64 3, .int .i64 7]]) ∧ Below w.heap.size w w' := by
  obtain ⟨ao, cap, rfl⟩ := hB.short
  have hm := hmC hB
  have F0 := h_ (AB.at0 w 44 [.bool false, .int .i64 0, .int .i64 0])
  have k0 := h_ (below1 w (.cells #[.bool false, .int .i64 0, .int .i64 0] 44))
  have q0 : Hid (∀ W, Below w.heap.size w W → Calls Tryz.prog 89 #[.slice ao l.length cap, .int .i64 0, .int .i64 2] W fun e w' => ∃ er, e = .returned (.tuple #[.int .i64 k, .int .i64 er]) ∧ Below W.heap.size W w') := h_ (fun W hW => by have := nget2 _ l 0 W (hB.later hW) (by omega); rw [hK] at this; exact this)
  have q2 : Hid (∀ W, Below w.heap.size w W → Calls Tryz.prog 89 #[.slice ao l.length cap, .int .i64 2, .int .i64 2] W fun e w' => ∃ er, e = .returned (.tuple #[.int .i64 (N : Int), .int .i64 er]) ∧ Below W.heap.size W w') := h_ (fun W hW => by have := nget2 _ l 2 W (hB.later hW) (by omega); rw [hN] at this; exact this)
  have g8 : (l.length : Int) < 8 := by omega
  clear hK hN hB q0 q2
  go_enter Tryz.func51, Tryz.ntmps51
  go_wp2_with (first | (go_at_call 52; refine (refuse3_any _ _).mono ?_; rintro e w9 ⟨rfl, b9⟩; have k9 := k0.out.trans (b9.mono k0.out.size); obtain ⟨s0, s1, s2, s3, s4, s5⟩ := (F0.out.later b9).three; obtain ⟨u0, u1, u2, -⟩ := ((F0.out.later b9).set3 (.bool true) (.int .i64 3) (.int .i64 7)).three; have bb := below_set3 (g := w.heap.size) k9 (Nat.le_refl _) (.bool true) (.int .i64 3) (.int .i64 7)))
  exact bodyPost_ret (v := .tuple #[.int .i64 0, .int .i64 0, .agg #[.bool true, .int .i64 3, .int .i64 7]]) (by simp [results, Tryz.results51, go_sem, u0, u1, u2]) rfl ⟨rfl, bb⟩
theorem rh_len1 (v : Value) (l : List Int) (k : Int) (N : Nat) (w : World) (hB : Bytes w v l) (hK : be2 l 0 = k) (hN : be2 l 2 = (N : Int)) (h8 : 8 ≤ l.length) (hl : N < 8) :
    Calls Tryz.prog 51 #[v] w fun e w' => e = .returned (.tuple #[.int .i64 0, .int .i64 0, .agg #[.bool true, .int .i64 3, .int .i64 7]]) ∧ Below w.heap.size w w' := by
  obtain ⟨ao, cap, rfl⟩ := hB.short
  have hm := hmC hB
  have F0 := h_ (AB.at0 w 44 [.bool false, .int .i64 0, .int .i64 0])
  have k0 := h_ (below1 w (.cells #[.bool false, .int .i64 0, .int .i64 0] 44))
  have q0 : Hid (∀ W, Below w.heap.size w W → Calls Tryz.prog 89 #[.slice ao l.length cap, .int .i64 0, .int .i64 2] W fun e w' => ∃ er, e = .returned (.tuple #[.int .i64 k, .int .i64 er]) ∧ Below W.heap.size W w') := h_ (fun W hW => by have := nget2 _ l 0 W (hB.later hW) (by omega); rw [hK] at this; exact this)
  have q2 : Hid (∀ W, Below w.heap.size w W → Calls Tryz.prog 89 #[.slice ao l.length cap, .int .i64 2, .int .i64 2] W fun e w' => ∃ er, e = .returned (.tuple #[.int .i64 (N : Int), .int .i64 er]) ∧ Below W.heap.size W w') := h_ (fun W hW => by have := nget2 _ l 2 W (hB.later hW) (by omega); rw [hN] at this; exact this)
  have g8 : ¬ (l.length : Int) < 8 := by omega
  have q5 := h_ (fun W (hW : Below w.heap.size w W) => inoughts_any k _ l W (hB.later hW) h8)
  clear hK hN
  clear hB
  have l8 : ((N : Nat) : Int) < 8 := by omega
  go_enter Tryz.func51, Tryz.ntmps51
  go_wp2_with (first | (go_at_call 52; refine (refuse3_any _ _).mono ?_; rintro e w9 ⟨rfl, b9⟩; have k9 := k2.out.trans (b9.mono k2.out.size); obtain ⟨s0, s1, s2, s3, s4, s5⟩ := (F2.out.later b9).three; obtain ⟨u0, u1, u2, -⟩ := ((F2.out.later b9).set3 (.bool true) (.int .i64 3) (.int .i64 7)).three; have bb := below_set3 (g := w.heap.size) k9 (Nat.le_refl _) (.bool true) (.int .i64 3) (.int .i64 7)) | (go_at_call 89; refine (q2.out _ k1.out).mono ?_; rintro e w2 ⟨er2, rfl, b2⟩; have k2 := h_ (k1.out.trans (b2.mono k1.out.size)); have F2 := h_ (F1.out.later b2); clear b2) | (go_at_call 89; refine (q0.out _ k0.out).mono ?_; rintro e w1 ⟨er1, rfl, b1⟩; have k1 := h_ (k0.out.trans (b1.mono k0.out.size)); have F1 := h_ (F0.out.later b1); clear b1) | (go_at_call 78; refine (isK_any _ _).mono ?_; rintro e w3 ⟨rfl, rfl⟩) | (go_at_call 90; refine (fitK_any _ _ _).mono ?_; rintro e w4 ⟨rfl, rfl⟩) | (go_at_call 91; refine (q5.out _ k2.out).mono ?_; rintro e w5 ⟨rfl, b5⟩; have k5 := h_ (k2.out.trans (b5.mono k2.out.size)); have F5 := h_ (F2.out.later b5); clear b5))
  exact bodyPost_ret (v := .tuple #[.int .i64 0, .int .i64 0, .agg #[.bool true, .int .i64 3, .int .i64 7]]) (by simp [results, Tryz.results51, go_sem, u0, u1, u2]) rfl ⟨rfl, bb⟩
theorem rh_len2 (v : Value) (l : List Int) (k : Int) (N : Nat) (w : World) (hB : Bytes w v l) (hK : be2 l 0 = k) (hN : be2 l 2 = (N : Int)) (h8 : 8 ≤ l.length) (hl : 8 ≤ N) (hm8 : ¬ N % 8 = 0) :
    Calls Tryz.prog 51 #[v] w fun e w' => e = .returned (.tuple #[.int .i64 0, .int .i64 0, .agg #[.bool true, .int .i64 3, .int .i64 7]]) ∧ Below w.heap.size w w' := by
  obtain ⟨ao, cap, rfl⟩ := hB.short
  have hm := hmC hB
  have F0 := h_ (AB.at0 w 44 [.bool false, .int .i64 0, .int .i64 0])
  have k0 := h_ (below1 w (.cells #[.bool false, .int .i64 0, .int .i64 0] 44))
  have q0 : Hid (∀ W, Below w.heap.size w W → Calls Tryz.prog 89 #[.slice ao l.length cap, .int .i64 0, .int .i64 2] W fun e w' => ∃ er, e = .returned (.tuple #[.int .i64 k, .int .i64 er]) ∧ Below W.heap.size W w') := h_ (fun W hW => by have := nget2 _ l 0 W (hB.later hW) (by omega); rw [hK] at this; exact this)
  have q2 : Hid (∀ W, Below w.heap.size w W → Calls Tryz.prog 89 #[.slice ao l.length cap, .int .i64 2, .int .i64 2] W fun e w' => ∃ er, e = .returned (.tuple #[.int .i64 (N : Int), .int .i64 er]) ∧ Below W.heap.size W w') := h_ (fun W hW => by have := nget2 _ l 2 W (hB.later hW) (by omega); rw [hN] at this; exact this)
  have g8 : ¬ (l.length : Int) < 8 := by omega
  have q5 := h_ (fun W (hW : Below w.heap.size w W) => inoughts_any k _ l W (hB.later hW) h8)
  clear hK hN
  clear hB
  have l8 : ¬ ((N : Nat) : Int) < 8 := by omega
  have lm : ¬ ((N : Nat) : Int) % 8 = 0 := by omega
  go_enter Tryz.func51, Tryz.ntmps51
  go_wp2_with (first | (go_at_call 52; refine (refuse3_any _ _).mono ?_; rintro e w9 ⟨rfl, b9⟩; have k9 := k2.out.trans (b9.mono k2.out.size); obtain ⟨s0, s1, s2, s3, s4, s5⟩ := (F2.out.later b9).three; obtain ⟨u0, u1, u2, -⟩ := ((F2.out.later b9).set3 (.bool true) (.int .i64 3) (.int .i64 7)).three; have bb := below_set3 (g := w.heap.size) k9 (Nat.le_refl _) (.bool true) (.int .i64 3) (.int .i64 7)) | (go_at_call 89; refine (q2.out _ k1.out).mono ?_; rintro e w2 ⟨er2, rfl, b2⟩; have k2 := h_ (k1.out.trans (b2.mono k1.out.size)); have F2 := h_ (F1.out.later b2); clear b2) | (go_at_call 89; refine (q0.out _ k0.out).mono ?_; rintro e w1 ⟨er1, rfl, b1⟩; have k1 := h_ (k0.out.trans (b1.mono k0.out.size)); have F1 := h_ (F0.out.later b1); clear b1) | (go_at_call 78; refine (isK_any _ _).mono ?_; rintro e w3 ⟨rfl, rfl⟩) | (go_at_call 90; refine (fitK_any _ _ _).mono ?_; rintro e w4 ⟨rfl, rfl⟩) | (go_at_call 91; refine (q5.out _ k2.out).mono ?_; rintro e w5 ⟨rfl, b5⟩; have k5 := h_ (k2.out.trans (b5.mono k2.out.size)); have F5 := h_ (F2.out.later b5); clear b5))
  exact bodyPost_ret (v := .tuple #[.int .i64 0, .int .i64 0, .agg #[.bool true, .int .i64 3, .int .i64 7]]) (by simp [results, Tryz.results51, go_sem, u0, u1, u2]) rfl ⟨rfl, bb⟩
theorem rh_len3 (v : Value) (l : List Int) (k : Int) (N : Nat) (w : World) (hB : Bytes w v l) (hK : be2 l 0 = k) (hN : be2 l 2 = (N : Int)) (h8 : 8 ≤ l.length) (hl : 8 ≤ N) (hm8 : N % 8 = 0) (hg : l.length < N) :
    Calls Tryz.prog 51 #[v] w fun e w' => e = .returned (.tuple #[.int .i64 0, .int .i64 0, .agg #[.bool true, .int .i64 3, .int .i64 7]]) ∧ Below w.heap.size w w' := by
  obtain ⟨ao, cap, rfl⟩ := hB.short
  have hm := hmC hB
  have F0 := h_ (AB.at0 w 44 [.bool false, .int .i64 0, .int .i64 0])
  have k0 := h_ (below1 w (.cells #[.bool false, .int .i64 0, .int .i64 0] 44))
  have q0 : Hid (∀ W, Below w.heap.size w W → Calls Tryz.prog 89 #[.slice ao l.length cap, .int .i64 0, .int .i64 2] W fun e w' => ∃ er, e = .returned (.tuple #[.int .i64 k, .int .i64 er]) ∧ Below W.heap.size W w') := h_ (fun W hW => by have := nget2 _ l 0 W (hB.later hW) (by omega); rw [hK] at this; exact this)
  have q2 : Hid (∀ W, Below w.heap.size w W → Calls Tryz.prog 89 #[.slice ao l.length cap, .int .i64 2, .int .i64 2] W fun e w' => ∃ er, e = .returned (.tuple #[.int .i64 (N : Int), .int .i64 er]) ∧ Below W.heap.size W w') := h_ (fun W hW => by have := nget2 _ l 2 W (hB.later hW) (by omega); rw [hN] at this; exact this)
  have g8 : ¬ (l.length : Int) < 8 := by omega
  have q5 := h_ (fun W (hW : Below w.heap.size w W) => inoughts_any k _ l W (hB.later hW) h8)
  clear hK hN
  clear hB
  have l8 : ¬ ((N : Nat) : Int) < 8 := by omega
  have lm : ((N : Nat) : Int) % 8 = 0 := by omega
  have lg : (l.length : Int) < (N : Int) := by omega
  go_enter Tryz.func51, Tryz.ntmps51
  go_wp2_with (first | (go_at_call 52; refine (refuse3_any _ _).mono ?_; rintro e w9 ⟨rfl, b9⟩; have k9 := k2.out.trans (b9.mono k2.out.size); obtain ⟨s0, s1, s2, s3, s4, s5⟩ := (F2.out.later b9).three; obtain ⟨u0, u1, u2, -⟩ := ((F2.out.later b9).set3 (.bool true) (.int .i64 3) (.int .i64 7)).three; have bb := below_set3 (g := w.heap.size) k9 (Nat.le_refl _) (.bool true) (.int .i64 3) (.int .i64 7)) | (go_at_call 89; refine (q2.out _ k1.out).mono ?_; rintro e w2 ⟨er2, rfl, b2⟩; have k2 := h_ (k1.out.trans (b2.mono k1.out.size)); have F2 := h_ (F1.out.later b2); clear b2) | (go_at_call 89; refine (q0.out _ k0.out).mono ?_; rintro e w1 ⟨er1, rfl, b1⟩; have k1 := h_ (k0.out.trans (b1.mono k0.out.size)); have F1 := h_ (F0.out.later b1); clear b1) | (go_at_call 78; refine (isK_any _ _).mono ?_; rintro e w3 ⟨rfl, rfl⟩) | (go_at_call 90; refine (fitK_any _ _ _).mono ?_; rintro e w4 ⟨rfl, rfl⟩) | (go_at_call 91; refine (q5.out _ k2.out).mono ?_; rintro e w5 ⟨rfl, b5⟩; have k5 := h_ (k2.out.trans (b5.mono k2.out.size)); have F5 := h_ (F2.out.later b5); clear b5))
  exact bodyPost_ret (v := .tuple #[.int .i64 0, .int .i64 0, .agg #[.bool true, .int .i64 3, .int .i64 7]]) (by simp [results, Tryz.results51, go_sem, u0, u1, u2]) rfl ⟨rfl, bb⟩
theorem rh_meter (v : Value) (l : List Int) (k : Int) (N : Nat) (w : World) (hB : Bytes w v l) (hK : be2 l 0 = k) (hN : be2 l 2 = (N : Int)) (h8 : 8 ≤ l.length) (hl : 8 ≤ N ∧ N % 8 = 0 ∧ N ≤ l.length) (h6 : k = 6) :
    Calls Tryz.prog 51 #[v] w fun e w' => e = .returned (.tuple #[.int .i64 0, .int .i64 0, .agg #[.bool true, .int .i64 3, .int .i64 1]]) ∧ Below w.heap.size w w' := by
  obtain ⟨ao, cap, rfl⟩ := hB.short
  have hm := hmC hB
  have F0 := h_ (AB.at0 w 44 [.bool false, .int .i64 0, .int .i64 0])
  have k0 := h_ (below1 w (.cells #[.bool false, .int .i64 0, .int .i64 0] 44))
  have q0 : Hid (∀ W, Below w.heap.size w W → Calls Tryz.prog 89 #[.slice ao l.length cap, .int .i64 0, .int .i64 2] W fun e w' => ∃ er, e = .returned (.tuple #[.int .i64 k, .int .i64 er]) ∧ Below W.heap.size W w') := h_ (fun W hW => by have := nget2 _ l 0 W (hB.later hW) (by omega); rw [hK] at this; exact this)
  have q2 : Hid (∀ W, Below w.heap.size w W → Calls Tryz.prog 89 #[.slice ao l.length cap, .int .i64 2, .int .i64 2] W fun e w' => ∃ er, e = .returned (.tuple #[.int .i64 (N : Int), .int .i64 er]) ∧ Below W.heap.size W w') := h_ (fun W hW => by have := nget2 _ l 2 W (hB.later hW) (by omega); rw [hN] at this; exact this)
  have g8 : ¬ (l.length : Int) < 8 := by omega
  have q5 := h_ (fun W (hW : Below w.heap.size w W) => inoughts_any k _ l W (hB.later hW) h8)
  clear hK hN
  clear hB
  have l8 : ¬ ((N : Nat) : Int) < 8 := by omega
  have lm : ((N : Nat) : Int) % 8 = 0 := by omega
  have lg : ¬ (l.length : Int) < (N : Int) := by omega
  subst h6
  go_enter Tryz.func51, Tryz.ntmps51
  go_wp2_with (first | (go_at_call 52; refine (refuse3_any _ _).mono ?_; rintro e w9 ⟨rfl, b9⟩; have k9 := k2.out.trans (b9.mono k2.out.size); obtain ⟨s0, s1, s2, s3, s4, s5⟩ := (F2.out.later b9).three; obtain ⟨u0, u1, u2, -⟩ := ((F2.out.later b9).set3 (.bool true) (.int .i64 3) (.int .i64 1)).three; have bb := below_set3 (g := w.heap.size) k9 (Nat.le_refl _) (.bool true) (.int .i64 3) (.int .i64 1)) | (go_at_call 89; refine (q2.out _ k1.out).mono ?_; rintro e w2 ⟨er2, rfl, b2⟩; have k2 := h_ (k1.out.trans (b2.mono k1.out.size)); have F2 := h_ (F1.out.later b2); clear b2) | (go_at_call 89; refine (q0.out _ k0.out).mono ?_; rintro e w1 ⟨er1, rfl, b1⟩; have k1 := h_ (k0.out.trans (b1.mono k0.out.size)); have F1 := h_ (F0.out.later b1); clear b1) | (go_at_call 78; refine (isK_any _ _).mono ?_; rintro e w3 ⟨rfl, rfl⟩) | (go_at_call 90; refine (fitK_any _ _ _).mono ?_; rintro e w4 ⟨rfl, rfl⟩) | (go_at_call 91; refine (q5.out _ k2.out).mono ?_; rintro e w5 ⟨rfl, b5⟩; have k5 := h_ (k2.out.trans (b5.mono k2.out.size)); have F5 := h_ (F2.out.later b5); clear b5))
  exact bodyPost_ret (v := .tuple #[.int .i64 0, .int .i64 0, .agg #[.bool true, .int .i64 3, .int .i64 1]]) (by simp [results, Tryz.results51, go_sem, u0, u1, u2]) rfl ⟨rfl, bb⟩
theorem rh_kind (v : Value) (l : List Int) (k : Int) (N : Nat) (w : World) (hB : Bytes w v l) (hK : be2 l 0 = k) (hN : be2 l 2 = (N : Int)) (h8 : 8 ≤ l.length) (hl : 8 ≤ N ∧ N % 8 = 0 ∧ N ≤ l.length) (h6 : ¬ k = 6) (hik : isK k = false) :
    Calls Tryz.prog 51 #[v] w fun e w' => e = .returned (.tuple #[.int .i64 0, .int .i64 0, .agg #[.bool true, .int .i64 3, .int .i64 0]]) ∧ Below w.heap.size w w' := by
  obtain ⟨ao, cap, rfl⟩ := hB.short
  have hm := hmC hB
  have F0 := h_ (AB.at0 w 44 [.bool false, .int .i64 0, .int .i64 0])
  have k0 := h_ (below1 w (.cells #[.bool false, .int .i64 0, .int .i64 0] 44))
  have q0 : Hid (∀ W, Below w.heap.size w W → Calls Tryz.prog 89 #[.slice ao l.length cap, .int .i64 0, .int .i64 2] W fun e w' => ∃ er, e = .returned (.tuple #[.int .i64 k, .int .i64 er]) ∧ Below W.heap.size W w') := h_ (fun W hW => by have := nget2 _ l 0 W (hB.later hW) (by omega); rw [hK] at this; exact this)
  have q2 : Hid (∀ W, Below w.heap.size w W → Calls Tryz.prog 89 #[.slice ao l.length cap, .int .i64 2, .int .i64 2] W fun e w' => ∃ er, e = .returned (.tuple #[.int .i64 (N : Int), .int .i64 er]) ∧ Below W.heap.size W w') := h_ (fun W hW => by have := nget2 _ l 2 W (hB.later hW) (by omega); rw [hN] at this; exact this)
  have g8 : ¬ (l.length : Int) < 8 := by omega
  have q5 := h_ (fun W (hW : Below w.heap.size w W) => inoughts_any k _ l W (hB.later hW) h8)
  clear hK hN
  clear hB
  have l8 : ¬ ((N : Nat) : Int) < 8 := by omega
  have lm : ((N : Nat) : Int) % 8 = 0 := by omega
  have lg : ¬ (l.length : Int) < (N : Int) := by omega
  go_enter Tryz.func51, Tryz.ntmps51
  go_wp2_with (first | (go_at_call 52; refine (refuse3_any _ _).mono ?_; rintro e w9 ⟨rfl, b9⟩; have k9 := k2.out.trans (b9.mono k2.out.size); obtain ⟨s0, s1, s2, s3, s4, s5⟩ := (F2.out.later b9).three; obtain ⟨u0, u1, u2, -⟩ := ((F2.out.later b9).set3 (.bool true) (.int .i64 3) (.int .i64 0)).three; have bb := below_set3 (g := w.heap.size) k9 (Nat.le_refl _) (.bool true) (.int .i64 3) (.int .i64 0)) | (go_at_call 89; refine (q2.out _ k1.out).mono ?_; rintro e w2 ⟨er2, rfl, b2⟩; have k2 := h_ (k1.out.trans (b2.mono k1.out.size)); have F2 := h_ (F1.out.later b2); clear b2) | (go_at_call 89; refine (q0.out _ k0.out).mono ?_; rintro e w1 ⟨er1, rfl, b1⟩; have k1 := h_ (k0.out.trans (b1.mono k0.out.size)); have F1 := h_ (F0.out.later b1); clear b1) | (go_at_call 78; refine (isK_any _ _).mono ?_; rintro e w3 ⟨rfl, rfl⟩) | (go_at_call 90; refine (fitK_any _ _ _).mono ?_; rintro e w4 ⟨rfl, rfl⟩) | (go_at_call 91; refine (q5.out _ k2.out).mono ?_; rintro e w5 ⟨rfl, b5⟩; have k5 := h_ (k2.out.trans (b5.mono k2.out.size)); have F5 := h_ (F2.out.later b5); clear b5))
  exact bodyPost_ret (v := .tuple #[.int .i64 0, .int .i64 0, .agg #[.bool true, .int .i64 3, .int .i64 0]]) (by simp [results, Tryz.results51, go_sem, u0, u1, u2]) rfl ⟨rfl, bb⟩
theorem rh_fit (v : Value) (l : List Int) (k : Int) (N : Nat) (w : World) (hB : Bytes w v l) (hK : be2 l 0 = k) (hN : be2 l 2 = (N : Int)) (h8 : 8 ≤ l.length) (hl : 8 ≤ N ∧ N % 8 = 0 ∧ N ≤ l.length) (h6 : ¬ k = 6) (hik : isK k = true) (hft : fitK k (N : Int) = false) :
    Calls Tryz.prog 51 #[v] w fun e w' => e = .returned (.tuple #[.int .i64 0, .int .i64 0, .agg #[.bool true, .int .i64 3, .int .i64 7]]) ∧ Below w.heap.size w w' := by
  obtain ⟨ao, cap, rfl⟩ := hB.short
  have hm := hmC hB
  have F0 := h_ (AB.at0 w 44 [.bool false, .int .i64 0, .int .i64 0])
  have k0 := h_ (below1 w (.cells #[.bool false, .int .i64 0, .int .i64 0] 44))
  have q0 : Hid (∀ W, Below w.heap.size w W → Calls Tryz.prog 89 #[.slice ao l.length cap, .int .i64 0, .int .i64 2] W fun e w' => ∃ er, e = .returned (.tuple #[.int .i64 k, .int .i64 er]) ∧ Below W.heap.size W w') := h_ (fun W hW => by have := nget2 _ l 0 W (hB.later hW) (by omega); rw [hK] at this; exact this)
  have q2 : Hid (∀ W, Below w.heap.size w W → Calls Tryz.prog 89 #[.slice ao l.length cap, .int .i64 2, .int .i64 2] W fun e w' => ∃ er, e = .returned (.tuple #[.int .i64 (N : Int), .int .i64 er]) ∧ Below W.heap.size W w') := h_ (fun W hW => by have := nget2 _ l 2 W (hB.later hW) (by omega); rw [hN] at this; exact this)
  have g8 : ¬ (l.length : Int) < 8 := by omega
  have q5 := h_ (fun W (hW : Below w.heap.size w W) => inoughts_any k _ l W (hB.later hW) h8)
  clear hK hN
  clear hB
  have l8 : ¬ ((N : Nat) : Int) < 8 := by omega
  have lm : ((N : Nat) : Int) % 8 = 0 := by omega
  have lg : ¬ (l.length : Int) < (N : Int) := by omega
  go_enter Tryz.func51, Tryz.ntmps51
  go_wp2_with (first | (go_at_call 52; refine (refuse3_any _ _).mono ?_; rintro e w9 ⟨rfl, b9⟩; have k9 := k2.out.trans (b9.mono k2.out.size); obtain ⟨s0, s1, s2, s3, s4, s5⟩ := (F2.out.later b9).three; obtain ⟨u0, u1, u2, -⟩ := ((F2.out.later b9).set3 (.bool true) (.int .i64 3) (.int .i64 7)).three; have bb := below_set3 (g := w.heap.size) k9 (Nat.le_refl _) (.bool true) (.int .i64 3) (.int .i64 7)) | (go_at_call 89; refine (q2.out _ k1.out).mono ?_; rintro e w2 ⟨er2, rfl, b2⟩; have k2 := h_ (k1.out.trans (b2.mono k1.out.size)); have F2 := h_ (F1.out.later b2); clear b2) | (go_at_call 89; refine (q0.out _ k0.out).mono ?_; rintro e w1 ⟨er1, rfl, b1⟩; have k1 := h_ (k0.out.trans (b1.mono k0.out.size)); have F1 := h_ (F0.out.later b1); clear b1) | (go_at_call 78; refine (isK_any _ _).mono ?_; rintro e w3 ⟨rfl, rfl⟩) | (go_at_call 90; refine (fitK_any _ _ _).mono ?_; rintro e w4 ⟨rfl, rfl⟩) | (go_at_call 91; refine (q5.out _ k2.out).mono ?_; rintro e w5 ⟨rfl, b5⟩; have k5 := h_ (k2.out.trans (b5.mono k2.out.size)); have F5 := h_ (F2.out.later b5); clear b5))
  exact bodyPost_ret (v := .tuple #[.int .i64 0, .int .i64 0, .agg #[.bool true, .int .i64 3, .int .i64 7]]) (by simp [results, Tryz.results51, go_sem, u0, u1, u2]) rfl ⟨rfl, bb⟩
theorem rh_nou (v : Value) (l : List Int) (k : Int) (N : Nat) (w : World) (hB : Bytes w v l) (hK : be2 l 0 = k) (hN : be2 l 2 = (N : Int)) (h8 : 8 ≤ l.length) (hl : 8 ≤ N ∧ N % 8 = 0 ∧ N ≤ l.length) (h6 : ¬ k = 6) (hik : isK k = true) (hft : fitK k (N : Int) = true) (hno : nouI k l = false) :
    Calls Tryz.prog 51 #[v] w fun e w' => e = .returned (.tuple #[.int .i64 0, .int .i64 0, .agg #[.bool true, .int .i64 3, .int .i64 7]]) ∧ Below w.heap.size w w' := by
  obtain ⟨ao, cap, rfl⟩ := hB.short
  have hm := hmC hB
  have F0 := h_ (AB.at0 w 44 [.bool false, .int .i64 0, .int .i64 0])
  have k0 := h_ (below1 w (.cells #[.bool false, .int .i64 0, .int .i64 0] 44))
  have q0 : Hid (∀ W, Below w.heap.size w W → Calls Tryz.prog 89 #[.slice ao l.length cap, .int .i64 0, .int .i64 2] W fun e w' => ∃ er, e = .returned (.tuple #[.int .i64 k, .int .i64 er]) ∧ Below W.heap.size W w') := h_ (fun W hW => by have := nget2 _ l 0 W (hB.later hW) (by omega); rw [hK] at this; exact this)
  have q2 : Hid (∀ W, Below w.heap.size w W → Calls Tryz.prog 89 #[.slice ao l.length cap, .int .i64 2, .int .i64 2] W fun e w' => ∃ er, e = .returned (.tuple #[.int .i64 (N : Int), .int .i64 er]) ∧ Below W.heap.size W w') := h_ (fun W hW => by have := nget2 _ l 2 W (hB.later hW) (by omega); rw [hN] at this; exact this)
  have g8 : ¬ (l.length : Int) < 8 := by omega
  have q5 := h_ (fun W (hW : Below w.heap.size w W) => inoughts_any k _ l W (hB.later hW) h8)
  clear hK hN
  clear hB
  have l8 : ¬ ((N : Nat) : Int) < 8 := by omega
  have lm : ((N : Nat) : Int) % 8 = 0 := by omega
  have lg : ¬ (l.length : Int) < (N : Int) := by omega
  go_enter Tryz.func51, Tryz.ntmps51
  go_wp2_with (first | (go_at_call 52; refine (refuse3_any _ _).mono ?_; rintro e w9 ⟨rfl, b9⟩; have k9 := k5.out.trans (b9.mono k5.out.size); obtain ⟨s0, s1, s2, s3, s4, s5⟩ := (F5.out.later b9).three; obtain ⟨u0, u1, u2, -⟩ := ((F5.out.later b9).set3 (.bool true) (.int .i64 3) (.int .i64 7)).three; have bb := below_set3 (g := w.heap.size) k9 (Nat.le_refl _) (.bool true) (.int .i64 3) (.int .i64 7)) | (go_at_call 89; refine (q2.out _ k1.out).mono ?_; rintro e w2 ⟨er2, rfl, b2⟩; have k2 := h_ (k1.out.trans (b2.mono k1.out.size)); have F2 := h_ (F1.out.later b2); clear b2) | (go_at_call 89; refine (q0.out _ k0.out).mono ?_; rintro e w1 ⟨er1, rfl, b1⟩; have k1 := h_ (k0.out.trans (b1.mono k0.out.size)); have F1 := h_ (F0.out.later b1); clear b1) | (go_at_call 78; refine (isK_any _ _).mono ?_; rintro e w3 ⟨rfl, rfl⟩) | (go_at_call 90; refine (fitK_any _ _ _).mono ?_; rintro e w4 ⟨rfl, rfl⟩) | (go_at_call 91; refine (q5.out _ k2.out).mono ?_; rintro e w5 ⟨rfl, b5⟩; have k5 := h_ (k2.out.trans (b5.mono k2.out.size)); have F5 := h_ (F2.out.later b5); clear b5))
  exact bodyPost_ret (v := .tuple #[.int .i64 0, .int .i64 0, .agg #[.bool true, .int .i64 3, .int .i64 7]]) (by simp [results, Tryz.results51, go_sem, u0, u1, u2]) rfl ⟨rfl, bb⟩
theorem rh_ok (v : Value) (l : List Int) (k : Int) (N : Nat) (w : World) (hB : Bytes w v l) (hK : be2 l 0 = k) (hN : be2 l 2 = (N : Int)) (h8 : 8 ≤ l.length) (hl : 8 ≤ N ∧ N % 8 = 0 ∧ N ≤ l.length) (h6 : ¬ k = 6) (hik : isK k = true) (hft : fitK k (N : Int) = true) (hno : nouI k l = true) :
    Calls Tryz.prog 51 #[v] w fun e w' => e = .returned (.tuple #[.int .i64 k, .int .i64 (N : Int), .agg #[.bool false, .int .i64 0, .int .i64 0]]) ∧ Below w.heap.size w w' := by
  obtain ⟨ao, cap, rfl⟩ := hB.short
  have hm := hmC hB
  have F0 := h_ (AB.at0 w 44 [.bool false, .int .i64 0, .int .i64 0])
  have k0 := h_ (below1 w (.cells #[.bool false, .int .i64 0, .int .i64 0] 44))
  have q0 : Hid (∀ W, Below w.heap.size w W → Calls Tryz.prog 89 #[.slice ao l.length cap, .int .i64 0, .int .i64 2] W fun e w' => ∃ er, e = .returned (.tuple #[.int .i64 k, .int .i64 er]) ∧ Below W.heap.size W w') := h_ (fun W hW => by have := nget2 _ l 0 W (hB.later hW) (by omega); rw [hK] at this; exact this)
  have q2 : Hid (∀ W, Below w.heap.size w W → Calls Tryz.prog 89 #[.slice ao l.length cap, .int .i64 2, .int .i64 2] W fun e w' => ∃ er, e = .returned (.tuple #[.int .i64 (N : Int), .int .i64 er]) ∧ Below W.heap.size W w') := h_ (fun W hW => by have := nget2 _ l 2 W (hB.later hW) (by omega); rw [hN] at this; exact this)
  have g8 : ¬ (l.length : Int) < 8 := by omega
  have q5 := h_ (fun W (hW : Below w.heap.size w W) => inoughts_any k _ l W (hB.later hW) h8)
  clear hK hN
  clear hB
  have l8 : ¬ ((N : Nat) : Int) < 8 := by omega
  have lm : ((N : Nat) : Int) % 8 = 0 := by omega
  have lg : ¬ (l.length : Int) < (N : Int) := by omega
  go_enter Tryz.func51, Tryz.ntmps51
  go_upto_region 16 with (first | (go_at_call 89; refine (q2.out _ k1.out).mono ?_; rintro e w2 ⟨er2, rfl, b2⟩; have k2 := h_ (k1.out.trans (b2.mono k1.out.size)); have F2 := h_ (F1.out.later b2); clear b2) | (go_at_call 89; refine (q0.out _ k0.out).mono ?_; rintro e w1 ⟨er1, rfl, b1⟩; have k1 := h_ (k0.out.trans (b1.mono k0.out.size)); have F1 := h_ (F0.out.later b1); clear b1) | (go_at_call 78; refine (isK_any _ _).mono ?_; rintro e w3 ⟨rfl, rfl⟩) | (go_at_call 90; refine (fitK_any _ _ _).mono ?_; rintro e w4 ⟨rfl, rfl⟩) | (go_at_call 91; refine (q5.out _ k2.out).mono ?_; rintro e w5 ⟨rfl, b5⟩; have k5 := h_ (k2.out.trans (b5.mono k2.out.size)); have F5 := h_ (F2.out.later b5); clear b5))
  obtain ⟨s0, s1, s2, s3, s4, s5⟩ := F5.out.three
  obtain ⟨u0, u1, u2, -⟩ := (F5.out.set3 (.bool false) (.int .i64 0) (.int .i64 0)).three
  have bb := below_set3 (g := w.heap.size) k5.out (Nat.le_refl _) (.bool false) (.int .i64 0) (.int .i64 0)
  go_wp2_with fail
  exact bodyPost_ret (v := .tuple #[.int .i64 k, .int .i64 (N : Int), .agg #[.bool false, .int .i64 0, .int .i64 0]]) (by simp [results, Tryz.results51, go_sem, u0, u1, u2]) rfl ⟨rfl, bb⟩
end Go.Proofs.YthhijfphfcmniaaGreat
namespace Go.Proofs.YthhijfphfcmniaaGreat
open Go Go.RowKit
theorem AB.far7 {w : World} {g f : Nat} {ty : TypeId} {cs : List Value} (h : AB w g ty cs) (hne : g ≠ f) (x0 x1 x2 x3 x4 x5 x6 : Value) : AB (((((((w.setCell ⟨f, 0, none⟩ (x0)).setCell ⟨f, 1, none⟩ (x1)).setCell ⟨f, 2, none⟩ (x2)).setCell ⟨f, 3, none⟩ (x3)).setCell ⟨f, 4, none⟩ (x4)).setCell ⟨f, 5, none⟩ (x5)).setCell ⟨f, 6, none⟩ (x6)) g ty cs := ((((((h.far x0 hne).far x1 hne).far x2 hne).far x3 hne).far x4 hne).far x5 hne).far x6 hne
theorem rb_5 (v : Value) (l : List Int) (w : World) (hB : Bytes w v l) (h4 : 4 ≤ l.length) :
    Calls Tryz.prog 53 #[.int .i64 5, v] w fun e w' => e = .returned (.tuple #[.agg #[.int .i64 5, .int .i64 0, .int .u64 0, .int .u64 0, .int .u64 0, .int .u64 0, .slice none 0 0], .agg #[.bool false, .int .i64 0, .int .i64 0]]) ∧ Below w.heap.size w w' := by
  obtain ⟨ao, cap, rfl⟩ := hB.short
  obtain ⟨ao4, -, sl4, b4⟩ := bytes_slice hB 4 h4
  have sl4 : ∀ wx, (Instr.slice 25 (.slice ao l.length cap) (some (.int .i64 4)) none none).run Tryz.prog wx = .ok (.slice ao4 (l.length - 4) (cap - 4)) wx := sl4
  have R0 : Hid (AB (((w.alloc (.cells #[.int .i64 0, .int .i64 0, .int .u64 0, .int .u64 0, .int .u64 0, .int .u64 0, .slice none 0 0] 34)).alloc (.cells #[.bool false, .int .i64 0, .int .i64 0] 44)).alloc (.cells #[.int .i64 5, .int .i64 0, .int .u64 0, .int .u64 0, .int .u64 0, .int .u64 0, .slice none 0 0] 34)) w.heap.size 34 [.int .i64 0, .int .i64 0, .int .u64 0, .int .u64 0, .int .u64 0, .int .u64 0, .slice none 0 0]) := h_ (((AB.at0 w 34 [.int .i64 0, .int .i64 0, .int .u64 0, .int .u64 0, .int .u64 0, .int .u64 0, .slice none 0 0]).alloc (.cells #[.bool false, .int .i64 0, .int .i64 0] 44)).alloc (.cells #[.int .i64 5, .int .i64 0, .int .u64 0, .int .u64 0, .int .u64 0, .int .u64 0, .slice none 0 0] 34))
  have F0 : Hid (AB (((w.alloc (.cells #[.int .i64 0, .int .i64 0, .int .u64 0, .int .u64 0, .int .u64 0, .int .u64 0, .slice none 0 0] 34)).alloc (.cells #[.bool false, .int .i64 0, .int .i64 0] 44)).alloc (.cells #[.int .i64 5, .int .i64 0, .int .u64 0, .int .u64 0, .int .u64 0, .int .u64 0, .slice none 0 0] 34)) (w.heap.size + 1) 44 [.bool false, .int .i64 0, .int .i64 0]) := h_ ((AB.at1 w (.cells #[.int .i64 0, .int .i64 0, .int .u64 0, .int .u64 0, .int .u64 0, .int .u64 0, .slice none 0 0] 34) 44 [.bool false, .int .i64 0, .int .i64 0]).alloc (.cells #[.int .i64 5, .int .i64 0, .int .u64 0, .int .u64 0, .int .u64 0, .int .u64 0, .slice none 0 0] 34))
  have I0 : Hid (AB (((w.alloc (.cells #[.int .i64 0, .int .i64 0, .int .u64 0, .int .u64 0, .int .u64 0, .int .u64 0, .slice none 0 0] 34)).alloc (.cells #[.bool false, .int .i64 0, .int .i64 0] 44)).alloc (.cells #[.int .i64 5, .int .i64 0, .int .u64 0, .int .u64 0, .int .u64 0, .int .u64 0, .slice none 0 0] 34)) (w.heap.size + 1 + 1) 34 [.int .i64 5, .int .i64 0, .int .u64 0, .int .u64 0, .int .u64 0, .int .u64 0, .slice none 0 0]) := h_ (by have := AB.at0 ((w.alloc (.cells #[.int .i64 0, .int .i64 0, .int .u64 0, .int .u64 0, .int .u64 0, .int .u64 0, .slice none 0 0] 34)).alloc (.cells #[.bool false, .int .i64 0, .int .i64 0] 44)) 34 [.int .i64 5, .int .i64 0, .int .u64 0, .int .u64 0, .int .u64 0, .int .u64 0, .slice none 0 0]; simpa using this)
  have k0 : Hid (Below w.heap.size w (((w.alloc (.cells #[.int .i64 0, .int .i64 0, .int .u64 0, .int .u64 0, .int .u64 0, .int .u64 0, .slice none 0 0] 34)).alloc (.cells #[.bool false, .int .i64 0, .int .i64 0] 44)).alloc (.cells #[.int .i64 5, .int .i64 0, .int .u64 0, .int .u64 0, .int .u64 0, .int .u64 0, .slice none 0 0] 34))) := h_ ((Below.refl _ _).alloc (Nat.le_refl _) _ |>.alloc (by simp) _ |>.alloc (by simp; omega) _)
  have qc : Hid (∀ W, Calls Tryz.prog 46 #[.agg #[.int .i64 5, .int .i64 0, .int .u64 0, .int .u64 0, .int .u64 0, .int .u64 0, .slice none 0 0]] W fun e w' => e = .returned (.agg #[.bool false, .int .i64 0, .int .i64 0]) ∧ Below W.heap.size W w') := h_ (fun W => chk_ok 5 0 0 0 0 0 (.slice none 0 0) W (by omega) (by omega) (by omega) (by omega) rfl (by omega) (by omega))
  obtain ⟨i0, i1, i2, i3, i4, i5, i6, -⟩ := I0.out.k7
  clear hB h4 b4
  go_enter Tryz.func53, Tryz.ntmps53
  go_upto_region 18 with (go_at_call 46; refine (qc.out _).mono ?_; rintro e w5 ⟨rfl, b5⟩; have k5 := h_ (k0.out.trans (b5.mono k0.out.size)); have R5 := h_ (R0.out.later b5); have F5 := h_ (F0.out.later b5); have I5 := h_ (I0.out.later b5); clear b5)
  have b6 := below1 w5 (.cells #[.bool false, .int .i64 0, .int .i64 0] 44)
  have R6 := R5.out.later b6
  have F6 := F5.out.later b6
  have I6_ := I5.out.later b6
  have k6 := k5.out.trans (b6.mono k5.out.size)
  clear b6
  generalize (w5.alloc (.cells #[.bool false, .int .i64 0, .int .i64 0] 44)) = Y at *
  obtain ⟨t0, t1, t2, t3, t4, t5, t6, t7, t8, t9, t10, t11, t12, t13⟩ := I6_.k7
  obtain ⟨s0, s1, s2, s3, s4, s5, s6, s7, s8, s9, s10, s11, s12, s13⟩ := R6.k7
  have F7 := F6.far7 (f := w.heap.size) (by omega) (.int .i64 5) (.int .i64 0) (.int .u64 0) (.int .u64 0) (.int .u64 0) (.int .u64 0) (.slice none 0 0)
  obtain ⟨p0, p1, p2, p3, p4, p5⟩ := F7.three
  obtain ⟨u0, u1, u2, u3, u4, u5, u6, -⟩ := ((R6.set7 (.int .i64 5) (.int .i64 0) (.int .u64 0) (.int .u64 0) (.int .u64 0) (.int .u64 0) (.slice none 0 0)).farx3 (f := w.heap.size + 1) (by omega) (.bool false) (.int .i64 0) (.int .i64 0)).k7
  obtain ⟨u7, u8, u9, -⟩ := (F7.set3 (.bool false) (.int .i64 0) (.int .i64 0)).three
  have bb := below_set3 (g := w.heap.size + 1) (below_set7 (n := w.heap.size) k6 (Nat.le_refl _) (.int .i64 5) (.int .i64 0) (.int .u64 0) (.int .u64 0) (.int .u64 0) (.int .u64 0) (.slice none 0 0)) (by omega) (.bool false) (.int .i64 0) (.int .i64 0)
  go_wp2_with fail
  exact bodyPost_ret (v := .tuple #[.agg #[.int .i64 5, .int .i64 0, .int .u64 0, .int .u64 0, .int .u64 0, .int .u64 0, .slice none 0 0], .agg #[.bool false, .int .i64 0, .int .i64 0]]) (by simp [results, Tryz.results53, go_sem, u0, u1, u2, u3, u4, u5, u6, u7, u8, u9]) rfl ⟨rfl, bb⟩
end Go.Proofs.YthhijfphfcmniaaGreat
namespace Go.Proofs.YthhijfphfcmniaaGreat
open Go Go.RowKit
theorem nget1I (v : Value) (l : List Int) (i : Nat) (w : World) (hB : Bytes w v l) (hi : i < l.length) (h2 : i ≤ 100000) :
    Calls Tryz.prog 89 #[v, .int .i64 (i : Int), .int .i64 1] w fun e w' => ∃ er, e = .returned (.tuple #[.int .i64 (l.getD i 0), .int .i64 er]) ∧ Below w.heap.size w w' := by
  obtain ⟨ao, cap, rfl, h1, h2, h3, h4, h5⟩ := hB
  have hB : Bytes w (.slice ao l.length cap) l := ⟨ao, cap, rfl, h1, h2, h3, h4, h5⟩
  obtain ⟨-, -, -, hat⟩ := Bytes.at hB
  obtain ⟨b, off, rfl, c0⟩ := hat i _ (getD_some hi)
  exact (get_ok1 b off l.length cap i (l.getD i 0) w (isB_getD h3 i) (by omega) h1 h2 c0).mono fun e w' h => ⟨0, h.1, h.2⟩
theorem rb_1 (v : Value) (l : List Int) (y : Int) (w : World) (hB : Bytes w v l) (h4 : 4 ≤ l.length) (hy : l.getD 0 0 = y) (hy2 : y < 255) :
    Calls Tryz.prog 53 #[.int .i64 1, v] w fun e w' => e = .returned (.tuple #[.agg #[.int .i64 1, .int .i64 y, .int .u64 0, .int .u64 0, .int .u64 0, .int .u64 0, .slice none 0 0], .agg #[.bool false, .int .i64 0, .int .i64 0]]) ∧ Below w.heap.size w w' := by
  obtain ⟨ao, cap, rfl⟩ := hB.short
  have hy0 : 0 ≤ y := by rw [← hy]; exact (isB_getD (Bytes.at hB).2.2.1 0).1
  obtain ⟨ao4, -, sl4, b4⟩ := bytes_slice hB 4 h4
  have sl4 : ∀ wx, (Instr.slice 25 (.slice ao l.length cap) (some (.int .i64 4)) none none).run Tryz.prog wx = .ok (.slice ao4 (l.length - 4) (cap - 4)) wx := sl4
  have qg : Hid (∀ W, Below w.heap.size w W → Calls Tryz.prog 89 #[.slice ao l.length cap, .int .i64 0, .int .i64 1] W fun e w' => ∃ er, e = .returned (.tuple #[.int .i64 y, .int .i64 er]) ∧ Below W.heap.size W w') := h_ (fun W hW => by have := nget1I _ l 0 W (hB.later hW) (by omega) (by omega); rw [hy] at this; exact this)
  have R0 : Hid (AB (((w.alloc (.cells #[.int .i64 0, .int .i64 0, .int .u64 0, .int .u64 0, .int .u64 0, .int .u64 0, .slice none 0 0] 34)).alloc (.cells #[.bool false, .int .i64 0, .int .i64 0] 44)).alloc (.cells #[.int .i64 1, .int .i64 0, .int .u64 0, .int .u64 0, .int .u64 0, .int .u64 0, .slice none 0 0] 34)) w.heap.size 34 [.int .i64 0, .int .i64 0, .int .u64 0, .int .u64 0, .int .u64 0, .int .u64 0, .slice none 0 0]) := h_ (((AB.at0 w 34 [.int .i64 0, .int .i64 0, .int .u64 0, .int .u64 0, .int .u64 0, .int .u64 0, .slice none 0 0]).alloc (.cells #[.bool false, .int .i64 0, .int .i64 0] 44)).alloc (.cells #[.int .i64 1, .int .i64 0, .int .u64 0, .int .u64 0, .int .u64 0, .int .u64 0, .slice none 0 0] 34))
  have F0 : Hid (AB (((w.alloc (.cells #[.int .i64 0, .int .i64 0, .int .u64 0, .int .u64 0, .int .u64 0, .int .u64 0, .slice none 0 0] 34)).alloc (.cells #[.bool false, .int .i64 0, .int .i64 0] 44)).alloc (.cells #[.int .i64 1, .int .i64 0, .int .u64 0, .int .u64 0, .int .u64 0, .int .u64 0, .slice none 0 0] 34)) (w.heap.size + 1) 44 [.bool false, .int .i64 0, .int .i64 0]) := h_ ((AB.at1 w (.cells #[.int .i64 0, .int .i64 0, .int .u64 0, .int .u64 0, .int .u64 0, .int .u64 0, .slice none 0 0] 34) 44 [.bool false, .int .i64 0, .int .i64 0]).alloc (.cells #[.int .i64 1, .int .i64 0, .int .u64 0, .int .u64 0, .int .u64 0, .int .u64 0, .slice none 0 0] 34))
  have I0 : Hid (AB (((w.alloc (.cells #[.int .i64 0, .int .i64 0, .int .u64 0, .int .u64 0, .int .u64 0, .int .u64 0, .slice none 0 0] 34)).alloc (.cells #[.bool false, .int .i64 0, .int .i64 0] 44)).alloc (.cells #[.int .i64 1, .int .i64 0, .int .u64 0, .int .u64 0, .int .u64 0, .int .u64 0, .slice none 0 0] 34)) (w.heap.size + 1 + 1) 34 [.int .i64 1, .int .i64 0, .int .u64 0, .int .u64 0, .int .u64 0, .int .u64 0, .slice none 0 0]) := h_ (by have := AB.at0 ((w.alloc (.cells #[.int .i64 0, .int .i64 0, .int .u64 0, .int .u64 0, .int .u64 0, .int .u64 0, .slice none 0 0] 34)).alloc (.cells #[.bool false, .int .i64 0, .int .i64 0] 44)) 34 [.int .i64 1, .int .i64 0, .int .u64 0, .int .u64 0, .int .u64 0, .int .u64 0, .slice none 0 0]; simpa using this)
  have k0 : Hid (Below w.heap.size w (((w.alloc (.cells #[.int .i64 0, .int .i64 0, .int .u64 0, .int .u64 0, .int .u64 0, .int .u64 0, .slice none 0 0] 34)).alloc (.cells #[.bool false, .int .i64 0, .int .i64 0] 44)).alloc (.cells #[.int .i64 1, .int .i64 0, .int .u64 0, .int .u64 0, .int .u64 0, .int .u64 0, .slice none 0 0] 34))) := h_ ((Below.refl _ _).alloc (Nat.le_refl _) _ |>.alloc (by simp) _ |>.alloc (by simp; omega) _)
  have qc : Hid (∀ W, Calls Tryz.prog 46 #[.agg #[.int .i64 1, .int .i64 y, .int .u64 0, .int .u64 0, .int .u64 0, .int .u64 0, .slice none 0 0]] W fun e w' => e = .returned (.agg #[.bool false, .int .i64 0, .int .i64 0]) ∧ Below W.heap.size W w') := h_ (fun W => chk_ok 1 y 0 0 0 0 (.slice none 0 0) W (by omega) (by omega) (by omega) (by omega) rfl (fun _ => ⟨hy0, hy2⟩) (by omega))
  clear hB h4 b4 hy hy0 hy2
  go_enter Tryz.func53, Tryz.ntmps53
  go_upto_region 15 with (go_at_call 89; refine (qg.out _ k0.out).mono ?_; rintro e w1 ⟨er1, rfl, b1⟩; have k1 := h_ (k0.out.trans (b1.mono k0.out.size)); have R1 := h_ (R0.out.later b1); have F1 := h_ (F0.out.later b1); have I1 := h_ (I0.out.later b1); obtain ⟨i0, i1, i2, i3, i4, i5, i6, i7, i8, i9, i10, i11, i12, i13⟩ := I1.out.k7; clear b1)
  have R0 := h_ (R1.out.far (f := w.heap.size + 1 + 1) (o := 1) (.int .i64 y) (by omega))
  have F0 := h_ (F1.out.far (f := w.heap.size + 1 + 1) (o := 1) (.int .i64 y) (by omega))
  have I0 : Hid (AB (w1.setCell ⟨w.heap.size + 1 + 1, 1, none⟩ (.int .i64 y)) (w.heap.size + 1 + 1) 34 [.int .i64 1, .int .i64 y, .int .u64 0, .int .u64 0, .int .u64 0, .int .u64 0, .slice none 0 0]) := h_ (I1.out.set (j := 1) _)
  have k0 := h_ (k1.out.setCell (p := ⟨w.heap.size + 1 + 1, 1, none⟩) (by dsimp only; omega) (.int .i64 y))
  clear i0 i1 i2 i3 i4 i5 i6 i7 i8 i9 i10 i11 i12 i13 R1 F1 I1 k1
  generalize (w1.setCell ⟨w.heap.size + 1 + 1, 1, none⟩ (.int .i64 y)) = X1 at *
  obtain ⟨i0, i1, i2, i3, i4, i5, i6, -⟩ := I0.out.k7
  go_upto_region 18 with (go_at_call 46; refine (qc.out _).mono ?_; rintro e w5 ⟨rfl, b5⟩; have k5 := h_ (k0.out.trans (b5.mono k0.out.size)); have R5 := h_ (R0.out.later b5); have F5 := h_ (F0.out.later b5); have I5 := h_ (I0.out.later b5); clear b5)
  have b6 := below1 w5 (.cells #[.bool false, .int .i64 0, .int .i64 0] 44)
  have R6 := R5.out.later b6
  have F6 := F5.out.later b6
  have I6_ := I5.out.later b6
  have k6 := k5.out.trans (b6.mono k5.out.size)
  clear b6
  generalize (w5.alloc (.cells #[.bool false, .int .i64 0, .int .i64 0] 44)) = Y at *
  obtain ⟨t0, t1, t2, t3, t4, t5, t6, t7, t8, t9, t10, t11, t12, t13⟩ := I6_.k7
  obtain ⟨s0, s1, s2, s3, s4, s5, s6, s7, s8, s9, s10, s11, s12, s13⟩ := R6.k7
  have F7 := F6.far7 (f := w.heap.size) (by omega) (.int .i64 1) (.int .i64 y) (.int .u64 0) (.int .u64 0) (.int .u64 0) (.int .u64 0) (.slice none 0 0)
  obtain ⟨p0, p1, p2, p3, p4, p5⟩ := F7.three
  obtain ⟨u0, u1, u2, u3, u4, u5, u6, -⟩ := ((R6.set7 (.int .i64 1) (.int .i64 y) (.int .u64 0) (.int .u64 0) (.int .u64 0) (.int .u64 0) (.slice none 0 0)).farx3 (f := w.heap.size + 1) (by omega) (.bool false) (.int .i64 0) (.int .i64 0)).k7
  obtain ⟨u7, u8, u9, -⟩ := (F7.set3 (.bool false) (.int .i64 0) (.int .i64 0)).three
  have bb := below_set3 (g := w.heap.size + 1) (below_set7 (n := w.heap.size) k6 (Nat.le_refl _) (.int .i64 1) (.int .i64 y) (.int .u64 0) (.int .u64 0) (.int .u64 0) (.int .u64 0) (.slice none 0 0)) (by omega) (.bool false) (.int .i64 0) (.int .i64 0)
  go_wp2_with fail
  exact bodyPost_ret (v := .tuple #[.agg #[.int .i64 1, .int .i64 y, .int .u64 0, .int .u64 0, .int .u64 0, .int .u64 0, .slice none 0 0], .agg #[.bool false, .int .i64 0, .int .i64 0]]) (by simp [results, Tryz.results53, go_sem, u0, u1, u2, u3, u4, u5, u6, u7, u8, u9]) rfl ⟨rfl, bb⟩
end Go.Proofs.YthhijfphfcmniaaGreat
namespace Go.Proofs.YthhijfphfcmniaaGreat
open Go Go.RowKit
theorem own_setI {w : World} {base g o n size : Nat} {e : TypeId} {v : Value} {xs : List Value} (h : w.ownsRow base e size v n xs) (hg : g < base) (x : Value) : (w.setCell ⟨g, o, none⟩ x).ownsRow base e size v n xs := by
  refine ⟨h.1, ?_⟩
  rcases h.2 with k | ⟨g', cap, cur, rfl, hb, hk, r⟩
  · exact .inl k
  · exact .inr ⟨g', cap, cur, rfl, hb, (Below.heap_setCell _ _ _ _ (fun e => by have : g' = g := e; omega)).trans hk, r⟩
theorem rb_a3 (v : Value) (l : List Int) (L : List A11) (nL : Nat) (w : World) (hB : Bytes w v l) (h4 : 4 ≤ l.length) (hP : ∀ (v : Value) (W : World), Bytes W v (l.drop 4) → Calls Tryz.prog 93 #[v] W fun e w' => (∃ r, e = .returned (.tuple #[r, .agg #[.bool false, .int .i64 0, .int .i64 0]]) ∧ w'.ownsRow W.heap.size 61 11 r nL (ads L)) ∧ Below W.heap.size W w') :
    Calls Tryz.prog 53 #[.int .i64 3, v] w fun e w' => (∃ r, e = .returned (.tuple #[.agg #[.int .i64 3, .int .i64 0, .int .u64 0, .int .u64 0, .int .u64 0, .int .u64 0, r], .agg #[.bool false, .int .i64 0, .int .i64 0]]) ∧ w'.ownsRow w.heap.size 61 11 r nL (ads L)) ∧ Below w.heap.size w w' := by
  obtain ⟨ao, cap, rfl⟩ := hB.short
  obtain ⟨ao4, -, sl4, b4⟩ := bytes_slice hB 4 h4
  have sl4 : ∀ wx, (Instr.slice 25 (.slice ao l.length cap) (some (.int .i64 4)) none none).run Tryz.prog wx = .ok (.slice ao4 (l.length - 4) (cap - 4)) wx := sl4
  have qd := h_ (fun W (hW : Below w.heap.size w W) => hP _ W (b4.later (w' := W) hW))
  have R0 : Hid (AB (((w.alloc (.cells #[.int .i64 0, .int .i64 0, .int .u64 0, .int .u64 0, .int .u64 0, .int .u64 0, .slice none 0 0] 34)).alloc (.cells #[.bool false, .int .i64 0, .int .i64 0] 44)).alloc (.cells #[.int .i64 3, .int .i64 0, .int .u64 0, .int .u64 0, .int .u64 0, .int .u64 0, .slice none 0 0] 34)) w.heap.size 34 [.int .i64 0, .int .i64 0, .int .u64 0, .int .u64 0, .int .u64 0, .int .u64 0, .slice none 0 0]) := h_ (((AB.at0 w 34 [.int .i64 0, .int .i64 0, .int .u64 0, .int .u64 0, .int .u64 0, .int .u64 0, .slice none 0 0]).alloc (.cells #[.bool false, .int .i64 0, .int .i64 0] 44)).alloc (.cells #[.int .i64 3, .int .i64 0, .int .u64 0, .int .u64 0, .int .u64 0, .int .u64 0, .slice none 0 0] 34))
  have F0 : Hid (AB (((w.alloc (.cells #[.int .i64 0, .int .i64 0, .int .u64 0, .int .u64 0, .int .u64 0, .int .u64 0, .slice none 0 0] 34)).alloc (.cells #[.bool false, .int .i64 0, .int .i64 0] 44)).alloc (.cells #[.int .i64 3, .int .i64 0, .int .u64 0, .int .u64 0, .int .u64 0, .int .u64 0, .slice none 0 0] 34)) (w.heap.size + 1) 44 [.bool false, .int .i64 0, .int .i64 0]) := h_ ((AB.at1 w (.cells #[.int .i64 0, .int .i64 0, .int .u64 0, .int .u64 0, .int .u64 0, .int .u64 0, .slice none 0 0] 34) 44 [.bool false, .int .i64 0, .int .i64 0]).alloc (.cells #[.int .i64 3, .int .i64 0, .int .u64 0, .int .u64 0, .int .u64 0, .int .u64 0, .slice none 0 0] 34))
  have I0 : Hid (AB (((w.alloc (.cells #[.int .i64 0, .int .i64 0, .int .u64 0, .int .u64 0, .int .u64 0, .int .u64 0, .slice none 0 0] 34)).alloc (.cells #[.bool false, .int .i64 0, .int .i64 0] 44)).alloc (.cells #[.int .i64 3, .int .i64 0, .int .u64 0, .int .u64 0, .int .u64 0, .int .u64 0, .slice none 0 0] 34)) (w.heap.size + 1 + 1) 34 [.int .i64 3, .int .i64 0, .int .u64 0, .int .u64 0, .int .u64 0, .int .u64 0, .slice none 0 0]) := h_ (by have := AB.at0 ((w.alloc (.cells #[.int .i64 0, .int .i64 0, .int .u64 0, .int .u64 0, .int .u64 0, .int .u64 0, .slice none 0 0] 34)).alloc (.cells #[.bool false, .int .i64 0, .int .i64 0] 44)) 34 [.int .i64 3, .int .i64 0, .int .u64 0, .int .u64 0, .int .u64 0, .int .u64 0, .slice none 0 0]; simpa using this)
  have k0 : Hid (Below w.heap.size w (((w.alloc (.cells #[.int .i64 0, .int .i64 0, .int .u64 0, .int .u64 0, .int .u64 0, .int .u64 0, .slice none 0 0] 34)).alloc (.cells #[.bool false, .int .i64 0, .int .i64 0] 44)).alloc (.cells #[.int .i64 3, .int .i64 0, .int .u64 0, .int .u64 0, .int .u64 0, .int .u64 0, .slice none 0 0] 34))) := h_ ((Below.refl _ _).alloc (Nat.le_refl _) _ |>.alloc (by simp) _ |>.alloc (by simp; omega) _)
  have qc : Hid (∀ ra rc W, Calls Tryz.prog 46 #[.agg #[.int .i64 3, .int .i64 0, .int .u64 0, .int .u64 0, .int .u64 0, .int .u64 0, .slice ra nL rc]] W fun e w' => e = .returned (.agg #[.bool false, .int .i64 0, .int .i64 0]) ∧ Below W.heap.size W w') := h_ (fun ra rc W => chk_ok 3 0 0 0 0 0 (.slice ra nL rc) W (by omega) (by omega) (by omega) (by omega) rfl (by omega) (by omega))
  clear hB h4 b4 hP
  go_enter Tryz.func53, Tryz.ntmps53
  go_upto_region 14 with (go_at_call 93; refine (qd.out _ k0.out).mono ?_; rintro e w1 ⟨⟨r, rfl, hR⟩, b1⟩; obtain ⟨ra, rc, e2⟩ := ownr_form hR; subst e2; have bj := b1.trans ((below1 w1 (.cells #[.bool false, .int .i64 0, .int .i64 0] 44)).mono b1.size); have k1 := h_ (k0.out.trans (bj.mono k0.out.size)); have R1 := h_ (R0.out.later bj); have F1 := h_ (F0.out.later bj); have I1 := h_ (I0.out.later bj); have HR1 := h_ (ownr_later (ownr_base hR (base' := w.heap.size + 1 + 1 + 1) (by simp)) (below1 w1 (.cells #[.bool false, .int .i64 0, .int .i64 0] 44))); obtain ⟨i0, i1, i2, i3, i4, i5, i6, i7, i8, i9, i10, i11, i12, i13⟩ := I1.out.k7; obtain ⟨m0, m1, m2, -⟩ := (AB.at0 w1 44 [.bool false, .int .i64 0, .int .i64 0]).three; clear b1 hR bj)
  generalize (w1.alloc (.cells #[.bool false, .int .i64 0, .int .i64 0] 44)) = Y1 at *
  go_upto_region 15 with fail
  have R0 := h_ (R1.out.far (f := w.heap.size + 1 + 1) (o := 6) (.slice ra nL rc) (by omega))
  have F0 := h_ (F1.out.far (f := w.heap.size + 1 + 1) (o := 6) (.slice ra nL rc) (by omega))
  have I0 : Hid (AB (Y1.setCell ⟨w.heap.size + 1 + 1, 6, none⟩ (.slice ra nL rc)) (w.heap.size + 1 + 1) 34 [.int .i64 3, .int .i64 0, .int .u64 0, .int .u64 0, .int .u64 0, .int .u64 0, .slice ra nL rc]) := h_ (I1.out.set (j := 6) _)
  have k0 := h_ (k1.out.setCell (p := ⟨w.heap.size + 1 + 1, 6, none⟩) (by dsimp only; omega) (.slice ra nL rc))
  have HR0 := h_ (own_setI (g := w.heap.size + 1 + 1) (o := 6) HR1.out (by omega) (.slice ra nL rc))
  clear i0 i1 i2 i3 i4 i5 i6 i7 i8 i9 i10 i11 i12 i13 R1 F1 I1 k1 HR1
  generalize (Y1.setCell ⟨w.heap.size + 1 + 1, 6, none⟩ (.slice ra nL rc)) = X1 at *
  obtain ⟨i0, i1, i2, i3, i4, i5, i6, -⟩ := I0.out.k7
  go_upto_region 18 with (go_at_call 46; refine (qc.out _ _ _).mono ?_; rintro e w5 ⟨rfl, b5⟩; have k5 := h_ (k0.out.trans (b5.mono k0.out.size)); have R5 := h_ (R0.out.later b5); have F5 := h_ (F0.out.later b5); have I5 := h_ (I0.out.later b5); have b5_ := b5; clear b5)
  have b6 := below1 w5 (.cells #[.bool false, .int .i64 0, .int .i64 0] 44)
  have R6 := R5.out.later b6
  have F6 := F5.out.later b6
  have I6_ := I5.out.later b6
  have k6 := k5.out.trans (b6.mono k5.out.size)
  have HR6 := ownr_later (ownr_later HR0.out b5_) b6
  clear b6
  generalize (w5.alloc (.cells #[.bool false, .int .i64 0, .int .i64 0] 44)) = Y at *
  obtain ⟨t0, t1, t2, t3, t4, t5, t6, t7, t8, t9, t10, t11, t12, t13⟩ := I6_.k7
  obtain ⟨s0, s1, s2, s3, s4, s5, s6, s7, s8, s9, s10, s11, s12, s13⟩ := R6.k7
  have F7 := F6.far7 (f := w.heap.size) (by omega) (.int .i64 3) (.int .i64 0) (.int .u64 0) (.int .u64 0) (.int .u64 0) (.int .u64 0) (.slice ra nL rc)
  obtain ⟨p0, p1, p2, p3, p4, p5⟩ := F7.three
  obtain ⟨u0, u1, u2, u3, u4, u5, u6, -⟩ := ((R6.set7 (.int .i64 3) (.int .i64 0) (.int .u64 0) (.int .u64 0) (.int .u64 0) (.int .u64 0) (.slice ra nL rc)).farx3 (f := w.heap.size + 1) (by omega) (.bool false) (.int .i64 0) (.int .i64 0)).k7
  obtain ⟨u7, u8, u9, -⟩ := (F7.set3 (.bool false) (.int .i64 0) (.int .i64 0)).three
  have bb := below_set3 (g := w.heap.size + 1) (below_set7 (n := w.heap.size) k6 (Nat.le_refl _) (.int .i64 3) (.int .i64 0) (.int .u64 0) (.int .u64 0) (.int .u64 0) (.int .u64 0) (.slice ra nL rc)) (by omega) (.bool false) (.int .i64 0) (.int .i64 0)
  go_wp2_with fail
  refine bodyPost_ret (v := .tuple #[.agg #[.int .i64 3, .int .i64 0, .int .u64 0, .int .u64 0, .int .u64 0, .int .u64 0, .slice ra nL rc], .agg #[.bool false, .int .i64 0, .int .i64 0]]) (by simp [results, Tryz.results53, go_sem, u0, u1, u2, u3, u4, u5, u6, u7, u8, u9]) rfl ⟨⟨_, rfl, ?_⟩, bb⟩
  refine ownr_base (base := w.heap.size + 1 + 1 + 1) ?_ (by omega)
  exact (own_setI (g := w.heap.size + 1) (own_setI (g := w.heap.size + 1) (own_setI (g := w.heap.size + 1) (own_setI (g := w.heap.size) (own_setI (g := w.heap.size) (own_setI (g := w.heap.size) (own_setI (g := w.heap.size) (own_setI (g := w.heap.size) (own_setI (g := w.heap.size) (own_setI (g := w.heap.size) HR6 (by omega) _) (by omega) _) (by omega) _) (by omega) _) (by omega) _) (by omega) _) (by omega) _) (by omega) _) (by omega) _) (by omega) _)
theorem rb_a4 (v : Value) (l : List Int) (L : List A11) (nL : Nat) (w : World) (hB : Bytes w v l) (h4 : 4 ≤ l.length) (hP : ∀ (v : Value) (W : World), Bytes W v (l.drop 4) → Calls Tryz.prog 93 #[v] W fun e w' => (∃ r, e = .returned (.tuple #[r, .agg #[.bool false, .int .i64 0, .int .i64 0]]) ∧ w'.ownsRow W.heap.size 61 11 r nL (ads L)) ∧ Below W.heap.size W w') :
    Calls Tryz.prog 53 #[.int .i64 4, v] w fun e w' => (∃ r, e = .returned (.tuple #[.agg #[.int .i64 4, .int .i64 0, .int .u64 0, .int .u64 0, .int .u64 0, .int .u64 0, r], .agg #[.bool false, .int .i64 0, .int .i64 0]]) ∧ w'.ownsRow w.heap.size 61 11 r nL (ads L)) ∧ Below w.heap.size w w' := by
  obtain ⟨ao, cap, rfl⟩ := hB.short
  obtain ⟨ao4, -, sl4, b4⟩ := bytes_slice hB 4 h4
  have sl4 : ∀ wx, (Instr.slice 25 (.slice ao l.length cap) (some (.int .i64 4)) none none).run Tryz.prog wx = .ok (.slice ao4 (l.length - 4) (cap - 4)) wx := sl4
  have qd := h_ (fun W (hW : Below w.heap.size w W) => hP _ W (b4.later (w' := W) hW))
  have R0 : Hid (AB (((w.alloc (.cells #[.int .i64 0, .int .i64 0, .int .u64 0, .int .u64 0, .int .u64 0, .int .u64 0, .slice none 0 0] 34)).alloc (.cells #[.bool false, .int .i64 0, .int .i64 0] 44)).alloc (.cells #[.int .i64 4, .int .i64 0, .int .u64 0, .int .u64 0, .int .u64 0, .int .u64 0, .slice none 0 0] 34)) w.heap.size 34 [.int .i64 0, .int .i64 0, .int .u64 0, .int .u64 0, .int .u64 0, .int .u64 0, .slice none 0 0]) := h_ (((AB.at0 w 34 [.int .i64 0, .int .i64 0, .int .u64 0, .int .u64 0, .int .u64 0, .int .u64 0, .slice none 0 0]).alloc (.cells #[.bool false, .int .i64 0, .int .i64 0] 44)).alloc (.cells #[.int .i64 4, .int .i64 0, .int .u64 0, .int .u64 0, .int .u64 0, .int .u64 0, .slice none 0 0] 34))
  have F0 : Hid (AB (((w.alloc (.cells #[.int .i64 0, .int .i64 0, .int .u64 0, .int .u64 0, .int .u64 0, .int .u64 0, .slice none 0 0] 34)).alloc (.cells #[.bool false, .int .i64 0, .int .i64 0] 44)).alloc (.cells #[.int .i64 4, .int .i64 0, .int .u64 0, .int .u64 0, .int .u64 0, .int .u64 0, .slice none 0 0] 34)) (w.heap.size + 1) 44 [.bool false, .int .i64 0, .int .i64 0]) := h_ ((AB.at1 w (.cells #[.int .i64 0, .int .i64 0, .int .u64 0, .int .u64 0, .int .u64 0, .int .u64 0, .slice none 0 0] 34) 44 [.bool false, .int .i64 0, .int .i64 0]).alloc (.cells #[.int .i64 4, .int .i64 0, .int .u64 0, .int .u64 0, .int .u64 0, .int .u64 0, .slice none 0 0] 34))
  have I0 : Hid (AB (((w.alloc (.cells #[.int .i64 0, .int .i64 0, .int .u64 0, .int .u64 0, .int .u64 0, .int .u64 0, .slice none 0 0] 34)).alloc (.cells #[.bool false, .int .i64 0, .int .i64 0] 44)).alloc (.cells #[.int .i64 4, .int .i64 0, .int .u64 0, .int .u64 0, .int .u64 0, .int .u64 0, .slice none 0 0] 34)) (w.heap.size + 1 + 1) 34 [.int .i64 4, .int .i64 0, .int .u64 0, .int .u64 0, .int .u64 0, .int .u64 0, .slice none 0 0]) := h_ (by have := AB.at0 ((w.alloc (.cells #[.int .i64 0, .int .i64 0, .int .u64 0, .int .u64 0, .int .u64 0, .int .u64 0, .slice none 0 0] 34)).alloc (.cells #[.bool false, .int .i64 0, .int .i64 0] 44)) 34 [.int .i64 4, .int .i64 0, .int .u64 0, .int .u64 0, .int .u64 0, .int .u64 0, .slice none 0 0]; simpa using this)
  have k0 : Hid (Below w.heap.size w (((w.alloc (.cells #[.int .i64 0, .int .i64 0, .int .u64 0, .int .u64 0, .int .u64 0, .int .u64 0, .slice none 0 0] 34)).alloc (.cells #[.bool false, .int .i64 0, .int .i64 0] 44)).alloc (.cells #[.int .i64 4, .int .i64 0, .int .u64 0, .int .u64 0, .int .u64 0, .int .u64 0, .slice none 0 0] 34))) := h_ ((Below.refl _ _).alloc (Nat.le_refl _) _ |>.alloc (by simp) _ |>.alloc (by simp; omega) _)
  have qc : Hid (∀ ra rc W, Calls Tryz.prog 46 #[.agg #[.int .i64 4, .int .i64 0, .int .u64 0, .int .u64 0, .int .u64 0, .int .u64 0, .slice ra nL rc]] W fun e w' => e = .returned (.agg #[.bool false, .int .i64 0, .int .i64 0]) ∧ Below W.heap.size W w') := h_ (fun ra rc W => chk_ok 4 0 0 0 0 0 (.slice ra nL rc) W (by omega) (by omega) (by omega) (by omega) rfl (by omega) (by omega))
  clear hB h4 b4 hP
  go_enter Tryz.func53, Tryz.ntmps53
  go_upto_region 14 with (go_at_call 93; refine (qd.out _ k0.out).mono ?_; rintro e w1 ⟨⟨r, rfl, hR⟩, b1⟩; obtain ⟨ra, rc, e2⟩ := ownr_form hR; subst e2; have bj := b1.trans ((below1 w1 (.cells #[.bool false, .int .i64 0, .int .i64 0] 44)).mono b1.size); have k1 := h_ (k0.out.trans (bj.mono k0.out.size)); have R1 := h_ (R0.out.later bj); have F1 := h_ (F0.out.later bj); have I1 := h_ (I0.out.later bj); have HR1 := h_ (ownr_later (ownr_base hR (base' := w.heap.size + 1 + 1 + 1) (by simp)) (below1 w1 (.cells #[.bool false, .int .i64 0, .int .i64 0] 44))); obtain ⟨i0, i1, i2, i3, i4, i5, i6, i7, i8, i9, i10, i11, i12, i13⟩ := I1.out.k7; obtain ⟨m0, m1, m2, -⟩ := (AB.at0 w1 44 [.bool false, .int .i64 0, .int .i64 0]).three; clear b1 hR bj)
  generalize (w1.alloc (.cells #[.bool false, .int .i64 0, .int .i64 0] 44)) = Y1 at *
  go_upto_region 15 with fail
  have R0 := h_ (R1.out.far (f := w.heap.size + 1 + 1) (o := 6) (.slice ra nL rc) (by omega))
  have F0 := h_ (F1.out.far (f := w.heap.size + 1 + 1) (o := 6) (.slice ra nL rc) (by omega))
  have I0 : Hid (AB (Y1.setCell ⟨w.heap.size + 1 + 1, 6, none⟩ (.slice ra nL rc)) (w.heap.size + 1 + 1) 34 [.int .i64 4, .int .i64 0, .int .u64 0, .int .u64 0, .int .u64 0, .int .u64 0, .slice ra nL rc]) := h_ (I1.out.set (j := 6) _)
  have k0 := h_ (k1.out.setCell (p := ⟨w.heap.size + 1 + 1, 6, none⟩) (by dsimp only; omega) (.slice ra nL rc))
  have HR0 := h_ (own_setI (g := w.heap.size + 1 + 1) (o := 6) HR1.out (by omega) (.slice ra nL rc))
  clear i0 i1 i2 i3 i4 i5 i6 i7 i8 i9 i10 i11 i12 i13 R1 F1 I1 k1 HR1
  generalize (Y1.setCell ⟨w.heap.size + 1 + 1, 6, none⟩ (.slice ra nL rc)) = X1 at *
  obtain ⟨i0, i1, i2, i3, i4, i5, i6, -⟩ := I0.out.k7
  go_upto_region 18 with (go_at_call 46; refine (qc.out _ _ _).mono ?_; rintro e w5 ⟨rfl, b5⟩; have k5 := h_ (k0.out.trans (b5.mono k0.out.size)); have R5 := h_ (R0.out.later b5); have F5 := h_ (F0.out.later b5); have I5 := h_ (I0.out.later b5); have b5_ := b5; clear b5)
  have b6 := below1 w5 (.cells #[.bool false, .int .i64 0, .int .i64 0] 44)
  have R6 := R5.out.later b6
  have F6 := F5.out.later b6
  have I6_ := I5.out.later b6
  have k6 := k5.out.trans (b6.mono k5.out.size)
  have HR6 := ownr_later (ownr_later HR0.out b5_) b6
  clear b6
  generalize (w5.alloc (.cells #[.bool false, .int .i64 0, .int .i64 0] 44)) = Y at *
  obtain ⟨t0, t1, t2, t3, t4, t5, t6, t7, t8, t9, t10, t11, t12, t13⟩ := I6_.k7
  obtain ⟨s0, s1, s2, s3, s4, s5, s6, s7, s8, s9, s10, s11, s12, s13⟩ := R6.k7
  have F7 := F6.far7 (f := w.heap.size) (by omega) (.int .i64 4) (.int .i64 0) (.int .u64 0) (.int .u64 0) (.int .u64 0) (.int .u64 0) (.slice ra nL rc)
  obtain ⟨p0, p1, p2, p3, p4, p5⟩ := F7.three
  obtain ⟨u0, u1, u2, u3, u4, u5, u6, -⟩ := ((R6.set7 (.int .i64 4) (.int .i64 0) (.int .u64 0) (.int .u64 0) (.int .u64 0) (.int .u64 0) (.slice ra nL rc)).farx3 (f := w.heap.size + 1) (by omega) (.bool false) (.int .i64 0) (.int .i64 0)).k7
  obtain ⟨u7, u8, u9, -⟩ := (F7.set3 (.bool false) (.int .i64 0) (.int .i64 0)).three
  have bb := below_set3 (g := w.heap.size + 1) (below_set7 (n := w.heap.size) k6 (Nat.le_refl _) (.int .i64 4) (.int .i64 0) (.int .u64 0) (.int .u64 0) (.int .u64 0) (.int .u64 0) (.slice ra nL rc)) (by omega) (.bool false) (.int .i64 0) (.int .i64 0)
  go_wp2_with fail
  refine bodyPost_ret (v := .tuple #[.agg #[.int .i64 4, .int .i64 0, .int .u64 0, .int .u64 0, .int .u64 0, .int .u64 0, .slice ra nL rc], .agg #[.bool false, .int .i64 0, .int .i64 0]]) (by simp [results, Tryz.results53, go_sem, u0, u1, u2, u3, u4, u5, u6, u7, u8, u9]) rfl ⟨⟨_, rfl, ?_⟩, bb⟩
  refine ownr_base (base := w.heap.size + 1 + 1 + 1) ?_ (by omega)
  exact (own_setI (g := w.heap.size + 1) (own_setI (g := w.heap.size + 1) (own_setI (g := w.heap.size + 1) (own_setI (g := w.heap.size) (own_setI (g := w.heap.size) (own_setI (g := w.heap.size) (own_setI (g := w.heap.size) (own_setI (g := w.heap.size) (own_setI (g := w.heap.size) (own_setI (g := w.heap.size) HR6 (by omega) _) (by omega) _) (by omega) _) (by omega) _) (by omega) _) (by omega) _) (by omega) _) (by omega) _) (by omega) _) (by omega) _)
end Go.Proofs.YthhijfphfcmniaaGreat
