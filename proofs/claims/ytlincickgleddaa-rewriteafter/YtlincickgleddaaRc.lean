import Derived.Test.YtlincickgleddaaRb
import Derived.Deep.RegionHeld3
import Derived.Deep.RegionWith
import Derived.Deep.MidRow
namespace Go.Proofs.Ytlincickgleddaa
open Go Go.RowKit
set_option linter.unusedVariables false
set_option linter.unusedSimpArgs false

set_option maxRecDepth 100000 in
set_option maxHeartbeats 2000000 in
theorem bthen (v0 v1 : Value) (t : Nat → Q4) (w : World) (hC : ∀ k : Nat, k < 24 → ∀ W, Below w.heap.size w W → Calls Try.prog 37 #[.int .i64 (k : Int), v0, v1] W fun e W' => e = .returned (td4 (t k)) ∧ Below W.heap.size W W') :
    Calls Try.prog 36 #[.func (.func 37) #[] #[v0, v1]] w fun e w' => e = .returned (cv ((List.range 24).map t)) ∧ Below w.heap.size w w' := by
  have HC := hide_ hC
  clear hC
  obtain ⟨R, hR⟩ : ∃ R, cv ((List.range 24).map t) = R := ⟨_, rfl⟩
  have HT : Hid (Value.agg (tdc (mapK t 24)).toArray = R) := hide_ (by rw [← hR, mapK_all]; rfl)
  rw [hR]
  clear hR
  have Z0 := hide_ ((AB.at0 w 28 (tdc z24q)).alloc (.cells (tdc z24q).toArray 28))
  have Z1 : Hid (AB ((w.alloc (.cells (tdc z24q).toArray 28)).alloc (.cells (tdc z24q).toArray 28)) (w.heap.size + 1) 28 (tdc (mapK t 0))) := hide_ (AB.at1 w (.cells (tdc z24q).toArray 28) 28 (tdc z24q))
  have B0 := hide_ (below2 w (.cells (tdc z24q).toArray 28) (.cells (tdc z24q).toArray 28))
  obtain ⟨hz0, -⟩ := zero_of_info zR'
  go_enter Try.func36, Try.ntmps36
  go_wp2_with fail
  generalize (w.alloc (.cells (tdc z24q).toArray 28)).alloc (.cells (tdc z24q).toArray 28) = W at *
  go_loopw [4, 5] (fun _ i wr => ∃ j : Nat, j ≤ 24 ∧ i = .int .i64 (j : Int) ∧ Hid (AB wr (w.heap.size + 1) 28 (tdc (mapK t j))) ∧ Hid (AB wr w.heap.size 28 (tdc z24q)) ∧ Below w.heap.size w wr) (fun _ i _ => 24 - (intOf i).toNat)
  case atStart => exact ⟨0, by omega, rfl, Z1, Z0, B0.out⟩
  case round =>
    obtain ⟨j, hj, rfl, HA, HZ, hb⟩ := hrel
    by_cases hlt : j < 24
    · have hlt' : (j : Int) < 24 := by omega
      have hj0 : (0 : Int) ≤ (j : Int) := by omega
      have q := HC.out j hlt wr hb
      have HQ := hide_ (mapK_at t j hlt)
      have HS := hide_ (mapK_set t j hlt)
      generalize t j = tj at *
      obtain ⟨a, b, c, d⟩ := tj
      unfold td4 td at q
      dsimp only at q
      have q := hide_ q
      go_wp2_with (go_at_call 37; refine q.out.mono ?_; rintro e w1 ⟨rfl, b1⟩; have bb := hb.trans (b1.mono hb.size); have HA1 := hide_ (HA.out.later b1); have HZ1 := hide_ (HZ.out.later b1); obtain ⟨c0, c1, c2, c3, f0, f1, f2, f3⟩ := HA1.out.quad HQ.out)
      go_roundw
      case rel => exact ⟨j + 1, by omega, by go_num, by rw [← HS.out]; exact hide_ (HA1.out.setq j a b c d), hide_ ((((HZ1.out.far _ (by omega)).far _ (by omega)).far _ (by omega)).far _ (by omega)), below_fillq bb (Nat.le_succ _) _ _ _ _ _ _ _ _⟩
      case measure => simp [intOf]; omega
    · have hlt' : ¬ (j : Int) < 24 := by omega
      have e : j = 24 := by omega
      subst e
      go_wp2_with (first | (refine wpList_loadA Try.underlying28 rfl (.tmp 3) rfl (w.heap.size + 1) (by simp [Act.eval, Act.put]) (tdc (mapK t 24)) (szR (mapK_len t 24 (Nat.le_refl _))) HA.out ?_) | (refine wpList_storeA rfl (.tmp 2) (.tmp 14) rfl w.heap.size (by simp [Act.eval, Act.put]) (tdc z24q) (tdc (mapK t 24)) (by rw [tdc_length, tdc_length, mapK_len t 24 (Nat.le_refl _), z24q_len]) (szR (mapK_len t 24 (Nat.le_refl _))) (tdc_one _) (by simp [Act.eval, Act.put]) HZ.out ?_))
      exact bodyPost_ret (results_A Try.underlying28 Try.results36 _ _ w.heap.size (tdc (mapK t 24)) (szR (mapK_len t 24 (Nat.le_refl _))) rfl HZ.out.row) rfl ⟨congrArg _ HT.out, hb.trans (below_row _ _ _ _ (Nat.le_refl _))⟩

set_option maxRecDepth 100000 in
set_option maxHeartbeats 2000000 in
theorem bset (v0 v1 v2 v3 : Value) (t : Nat → Q4) (w : World) (hC : ∀ k : Nat, k < 24 → ∀ W, Below w.heap.size w W → Calls Try.prog 42 #[.int .i64 (k : Int), v0, v1, v2, v3] W fun e W' => e = .returned (td4 (t k)) ∧ Below W.heap.size W W') :
    Calls Try.prog 36 #[.func (.func 42) #[] #[v0, v1, v2, v3]] w fun e w' => e = .returned (cv ((List.range 24).map t)) ∧ Below w.heap.size w w' := by
  have HC := hide_ hC
  clear hC
  obtain ⟨R, hR⟩ : ∃ R, cv ((List.range 24).map t) = R := ⟨_, rfl⟩
  have HT : Hid (Value.agg (tdc (mapK t 24)).toArray = R) := hide_ (by rw [← hR, mapK_all]; rfl)
  rw [hR]
  clear hR
  have Z0 := hide_ ((AB.at0 w 28 (tdc z24q)).alloc (.cells (tdc z24q).toArray 28))
  have Z1 : Hid (AB ((w.alloc (.cells (tdc z24q).toArray 28)).alloc (.cells (tdc z24q).toArray 28)) (w.heap.size + 1) 28 (tdc (mapK t 0))) := hide_ (AB.at1 w (.cells (tdc z24q).toArray 28) 28 (tdc z24q))
  have B0 := hide_ (below2 w (.cells (tdc z24q).toArray 28) (.cells (tdc z24q).toArray 28))
  obtain ⟨hz0, -⟩ := zero_of_info zR'
  go_enter Try.func36, Try.ntmps36
  go_wp2_with fail
  generalize (w.alloc (.cells (tdc z24q).toArray 28)).alloc (.cells (tdc z24q).toArray 28) = W at *
  go_loopw [4, 5] (fun _ i wr => ∃ j : Nat, j ≤ 24 ∧ i = .int .i64 (j : Int) ∧ Hid (AB wr (w.heap.size + 1) 28 (tdc (mapK t j))) ∧ Hid (AB wr w.heap.size 28 (tdc z24q)) ∧ Below w.heap.size w wr) (fun _ i _ => 24 - (intOf i).toNat)
  case atStart => exact ⟨0, by omega, rfl, Z1, Z0, B0.out⟩
  case round =>
    obtain ⟨j, hj, rfl, HA, HZ, hb⟩ := hrel
    by_cases hlt : j < 24
    · have hlt' : (j : Int) < 24 := by omega
      have hj0 : (0 : Int) ≤ (j : Int) := by omega
      have q := HC.out j hlt wr hb
      have HQ := hide_ (mapK_at t j hlt)
      have HS := hide_ (mapK_set t j hlt)
      generalize t j = tj at *
      obtain ⟨a, b, c, d⟩ := tj
      unfold td4 td at q
      dsimp only at q
      have q := hide_ q
      go_wp2_with (go_at_call 42; refine q.out.mono ?_; rintro e w1 ⟨rfl, b1⟩; have bb := hb.trans (b1.mono hb.size); have HA1 := hide_ (HA.out.later b1); have HZ1 := hide_ (HZ.out.later b1); obtain ⟨c0, c1, c2, c3, f0, f1, f2, f3⟩ := HA1.out.quad HQ.out)
      go_roundw
      case rel => exact ⟨j + 1, by omega, by go_num, by rw [← HS.out]; exact hide_ (HA1.out.setq j a b c d), hide_ ((((HZ1.out.far _ (by omega)).far _ (by omega)).far _ (by omega)).far _ (by omega)), below_fillq bb (Nat.le_succ _) _ _ _ _ _ _ _ _⟩
      case measure => simp [intOf]; omega
    · have hlt' : ¬ (j : Int) < 24 := by omega
      have e : j = 24 := by omega
      subst e
      go_wp2_with (first | (refine wpList_loadA Try.underlying28 rfl (.tmp 3) rfl (w.heap.size + 1) (by simp [Act.eval, Act.put]) (tdc (mapK t 24)) (szR (mapK_len t 24 (Nat.le_refl _))) HA.out ?_) | (refine wpList_storeA rfl (.tmp 2) (.tmp 14) rfl w.heap.size (by simp [Act.eval, Act.put]) (tdc z24q) (tdc (mapK t 24)) (by rw [tdc_length, tdc_length, mapK_len t 24 (Nat.le_refl _), z24q_len]) (szR (mapK_len t 24 (Nat.le_refl _))) (tdc_one _) (by simp [Act.eval, Act.put]) HZ.out ?_))
      exact bodyPost_ret (results_A Try.underlying28 Try.results36 _ _ w.heap.size (tdc (mapK t 24)) (szR (mapK_len t 24 (Nat.le_refl _))) rfl HZ.out.row) rfl ⟨congrArg _ HT.out, hb.trans (below_row _ _ _ _ (Nat.le_refl _))⟩

set_option maxRecDepth 100000 in
set_option maxHeartbeats 2000000 in
theorem bclean (v0 : Value) (t : Nat → Q4) (w : World) (hC : ∀ k : Nat, k < 24 → ∀ W, Below w.heap.size w W → Calls Try.prog 40 #[.int .i64 (k : Int), v0] W fun e W' => e = .returned (td4 (t k)) ∧ Below W.heap.size W W') :
    Calls Try.prog 36 #[.func (.func 40) #[] #[v0]] w fun e w' => e = .returned (cv ((List.range 24).map t)) ∧ Below w.heap.size w w' := by
  have HC := hide_ hC
  clear hC
  obtain ⟨R, hR⟩ : ∃ R, cv ((List.range 24).map t) = R := ⟨_, rfl⟩
  have HT : Hid (Value.agg (tdc (mapK t 24)).toArray = R) := hide_ (by rw [← hR, mapK_all]; rfl)
  rw [hR]
  clear hR
  have Z0 := hide_ ((AB.at0 w 28 (tdc z24q)).alloc (.cells (tdc z24q).toArray 28))
  have Z1 : Hid (AB ((w.alloc (.cells (tdc z24q).toArray 28)).alloc (.cells (tdc z24q).toArray 28)) (w.heap.size + 1) 28 (tdc (mapK t 0))) := hide_ (AB.at1 w (.cells (tdc z24q).toArray 28) 28 (tdc z24q))
  have B0 := hide_ (below2 w (.cells (tdc z24q).toArray 28) (.cells (tdc z24q).toArray 28))
  obtain ⟨hz0, -⟩ := zero_of_info zR'
  go_enter Try.func36, Try.ntmps36
  go_wp2_with fail
  generalize (w.alloc (.cells (tdc z24q).toArray 28)).alloc (.cells (tdc z24q).toArray 28) = W at *
  go_loopw [4, 5] (fun _ i wr => ∃ j : Nat, j ≤ 24 ∧ i = .int .i64 (j : Int) ∧ Hid (AB wr (w.heap.size + 1) 28 (tdc (mapK t j))) ∧ Hid (AB wr w.heap.size 28 (tdc z24q)) ∧ Below w.heap.size w wr) (fun _ i _ => 24 - (intOf i).toNat)
  case atStart => exact ⟨0, by omega, rfl, Z1, Z0, B0.out⟩
  case round =>
    obtain ⟨j, hj, rfl, HA, HZ, hb⟩ := hrel
    by_cases hlt : j < 24
    · have hlt' : (j : Int) < 24 := by omega
      have hj0 : (0 : Int) ≤ (j : Int) := by omega
      have q := HC.out j hlt wr hb
      have HQ := hide_ (mapK_at t j hlt)
      have HS := hide_ (mapK_set t j hlt)
      generalize t j = tj at *
      obtain ⟨a, b, c, d⟩ := tj
      unfold td4 td at q
      dsimp only at q
      have q := hide_ q
      go_wp2_with (go_at_call 40; refine q.out.mono ?_; rintro e w1 ⟨rfl, b1⟩; have bb := hb.trans (b1.mono hb.size); have HA1 := hide_ (HA.out.later b1); have HZ1 := hide_ (HZ.out.later b1); obtain ⟨c0, c1, c2, c3, f0, f1, f2, f3⟩ := HA1.out.quad HQ.out)
      go_roundw
      case rel => exact ⟨j + 1, by omega, by go_num, by rw [← HS.out]; exact hide_ (HA1.out.setq j a b c d), hide_ ((((HZ1.out.far _ (by omega)).far _ (by omega)).far _ (by omega)).far _ (by omega)), below_fillq bb (Nat.le_succ _) _ _ _ _ _ _ _ _⟩
      case measure => simp [intOf]; omega
    · have hlt' : ¬ (j : Int) < 24 := by omega
      have e : j = 24 := by omega
      subst e
      go_wp2_with (first | (refine wpList_loadA Try.underlying28 rfl (.tmp 3) rfl (w.heap.size + 1) (by simp [Act.eval, Act.put]) (tdc (mapK t 24)) (szR (mapK_len t 24 (Nat.le_refl _))) HA.out ?_) | (refine wpList_storeA rfl (.tmp 2) (.tmp 14) rfl w.heap.size (by simp [Act.eval, Act.put]) (tdc z24q) (tdc (mapK t 24)) (by rw [tdc_length, tdc_length, mapK_len t 24 (Nat.le_refl _), z24q_len]) (szR (mapK_len t 24 (Nat.le_refl _))) (tdc_one _) (by simp [Act.eval, Act.put]) HZ.out ?_))
      exact bodyPost_ret (results_A Try.underlying28 Try.results36 _ _ w.heap.size (tdc (mapK t 24)) (szR (mapK_len t 24 (Nat.le_refl _))) rfl HZ.out.row) rfl ⟨congrArg _ HT.out, hb.trans (below_row _ _ _ _ (Nat.le_refl _))⟩

set_option maxRecDepth 100000 in
set_option maxHeartbeats 2000000 in
theorem bafter (v0 v1 : Value) (t : Nat → Q4) (w : World) (hC : ∀ k : Nat, k < 24 → ∀ W, Below w.heap.size w W → Calls Try.prog 39 #[.int .i64 (k : Int), v0, v1] W fun e W' => e = .returned (td4 (t k)) ∧ Below W.heap.size W W') :
    Calls Try.prog 25 #[.func (.func 39) #[] #[v0, v1]] w fun e w' => e = .returned (cv ((List.range 24).map t)) ∧ Below w.heap.size w w' := by
  have HC := hide_ hC
  clear hC
  obtain ⟨R, hR⟩ : ∃ R, cv ((List.range 24).map t) = R := ⟨_, rfl⟩
  have HT : Hid (Value.agg (tdc (mapK t 24)).toArray = R) := hide_ (by rw [← hR, mapK_all]; rfl)
  rw [hR]
  clear hR
  have Z0 := hide_ ((AB.at0 w 29 (tdc z24q)).alloc (.cells (tdc z24q).toArray 29))
  have Z1 : Hid (AB ((w.alloc (.cells (tdc z24q).toArray 29)).alloc (.cells (tdc z24q).toArray 29)) (w.heap.size + 1) 29 (tdc (mapK t 0))) := hide_ (AB.at1 w (.cells (tdc z24q).toArray 29) 29 (tdc z24q))
  have B0 := hide_ (below2 w (.cells (tdc z24q).toArray 29) (.cells (tdc z24q).toArray 29))
  obtain ⟨hz0, -⟩ := zero_of_info zC'
  go_enter Try.func25, Try.ntmps25
  go_wp2_with fail
  generalize (w.alloc (.cells (tdc z24q).toArray 29)).alloc (.cells (tdc z24q).toArray 29) = W at *
  go_loopw [4, 5] (fun _ i wr => ∃ j : Nat, j ≤ 24 ∧ i = .int .i64 (j : Int) ∧ Hid (AB wr (w.heap.size + 1) 29 (tdc (mapK t j))) ∧ Hid (AB wr w.heap.size 29 (tdc z24q)) ∧ Below w.heap.size w wr) (fun _ i _ => 24 - (intOf i).toNat)
  case atStart => exact ⟨0, by omega, rfl, Z1, Z0, B0.out⟩
  case round =>
    obtain ⟨j, hj, rfl, HA, HZ, hb⟩ := hrel
    by_cases hlt : j < 24
    · have hlt' : (j : Int) < 24 := by omega
      have hj0 : (0 : Int) ≤ (j : Int) := by omega
      have q := HC.out j hlt wr hb
      have HQ := hide_ (mapK_at t j hlt)
      have HS := hide_ (mapK_set t j hlt)
      generalize t j = tj at *
      obtain ⟨a, b, c, d⟩ := tj
      unfold td4 td at q
      dsimp only at q
      have q := hide_ q
      go_wp2_with (go_at_call 39; refine q.out.mono ?_; rintro e w1 ⟨rfl, b1⟩; have bb := hb.trans (b1.mono hb.size); have HA1 := hide_ (HA.out.later b1); have HZ1 := hide_ (HZ.out.later b1); obtain ⟨c0, c1, c2, c3, f0, f1, f2, f3⟩ := HA1.out.quad HQ.out)
      go_roundw
      case rel => exact ⟨j + 1, by omega, by go_num, by rw [← HS.out]; exact hide_ (HA1.out.setq j a b c d), hide_ ((((HZ1.out.far _ (by omega)).far _ (by omega)).far _ (by omega)).far _ (by omega)), below_fillq bb (Nat.le_succ _) _ _ _ _ _ _ _ _⟩
      case measure => simp [intOf]; omega
    · have hlt' : ¬ (j : Int) < 24 := by omega
      have e : j = 24 := by omega
      subst e
      go_wp2_with (first | (refine wpList_loadA Try.underlying29 rfl (.tmp 3) rfl (w.heap.size + 1) (by simp [Act.eval, Act.put]) (tdc (mapK t 24)) (szC (mapK_len t 24 (Nat.le_refl _))) HA.out ?_) | (refine wpList_storeA rfl (.tmp 2) (.tmp 14) rfl w.heap.size (by simp [Act.eval, Act.put]) (tdc z24q) (tdc (mapK t 24)) (by rw [tdc_length, tdc_length, mapK_len t 24 (Nat.le_refl _), z24q_len]) (szC (mapK_len t 24 (Nat.le_refl _))) (tdc_one _) (by simp [Act.eval, Act.put]) HZ.out ?_))
      exact bodyPost_ret (results_A Try.underlying29 Try.results25 _ _ w.heap.size (tdc (mapK t 24)) (szC (mapK_len t 24 (Nat.le_refl _))) rfl HZ.out.row) rfl ⟨congrArg _ HT.out, hb.trans (below_row _ _ _ _ (Nat.le_refl _))⟩

set_option maxRecDepth 100000 in
set_option maxHeartbeats 2000000 in
theorem bbefore (v0 v1 : Value) (t : Nat → Q4) (w : World) (hC : ∀ k : Nat, k < 24 → ∀ W, Below w.heap.size w W → Calls Try.prog 26 #[.int .i64 (k : Int), v0, v1] W fun e W' => e = .returned (td4 (t k)) ∧ Below W.heap.size W W') :
    Calls Try.prog 25 #[.func (.func 26) #[] #[v0, v1]] w fun e w' => e = .returned (cv ((List.range 24).map t)) ∧ Below w.heap.size w w' := by
  have HC := hide_ hC
  clear hC
  obtain ⟨R, hR⟩ : ∃ R, cv ((List.range 24).map t) = R := ⟨_, rfl⟩
  have HT : Hid (Value.agg (tdc (mapK t 24)).toArray = R) := hide_ (by rw [← hR, mapK_all]; rfl)
  rw [hR]
  clear hR
  have Z0 := hide_ ((AB.at0 w 29 (tdc z24q)).alloc (.cells (tdc z24q).toArray 29))
  have Z1 : Hid (AB ((w.alloc (.cells (tdc z24q).toArray 29)).alloc (.cells (tdc z24q).toArray 29)) (w.heap.size + 1) 29 (tdc (mapK t 0))) := hide_ (AB.at1 w (.cells (tdc z24q).toArray 29) 29 (tdc z24q))
  have B0 := hide_ (below2 w (.cells (tdc z24q).toArray 29) (.cells (tdc z24q).toArray 29))
  obtain ⟨hz0, -⟩ := zero_of_info zC'
  go_enter Try.func25, Try.ntmps25
  go_wp2_with fail
  generalize (w.alloc (.cells (tdc z24q).toArray 29)).alloc (.cells (tdc z24q).toArray 29) = W at *
  go_loopw [4, 5] (fun _ i wr => ∃ j : Nat, j ≤ 24 ∧ i = .int .i64 (j : Int) ∧ Hid (AB wr (w.heap.size + 1) 29 (tdc (mapK t j))) ∧ Hid (AB wr w.heap.size 29 (tdc z24q)) ∧ Below w.heap.size w wr) (fun _ i _ => 24 - (intOf i).toNat)
  case atStart => exact ⟨0, by omega, rfl, Z1, Z0, B0.out⟩
  case round =>
    obtain ⟨j, hj, rfl, HA, HZ, hb⟩ := hrel
    by_cases hlt : j < 24
    · have hlt' : (j : Int) < 24 := by omega
      have hj0 : (0 : Int) ≤ (j : Int) := by omega
      have q := HC.out j hlt wr hb
      have HQ := hide_ (mapK_at t j hlt)
      have HS := hide_ (mapK_set t j hlt)
      generalize t j = tj at *
      obtain ⟨a, b, c, d⟩ := tj
      unfold td4 td at q
      dsimp only at q
      have q := hide_ q
      go_wp2_with (go_at_call 26; refine q.out.mono ?_; rintro e w1 ⟨rfl, b1⟩; have bb := hb.trans (b1.mono hb.size); have HA1 := hide_ (HA.out.later b1); have HZ1 := hide_ (HZ.out.later b1); obtain ⟨c0, c1, c2, c3, f0, f1, f2, f3⟩ := HA1.out.quad HQ.out)
      go_roundw
      case rel => exact ⟨j + 1, by omega, by go_num, by rw [← HS.out]; exact hide_ (HA1.out.setq j a b c d), hide_ ((((HZ1.out.far _ (by omega)).far _ (by omega)).far _ (by omega)).far _ (by omega)), below_fillq bb (Nat.le_succ _) _ _ _ _ _ _ _ _⟩
      case measure => simp [intOf]; omega
    · have hlt' : ¬ (j : Int) < 24 := by omega
      have e : j = 24 := by omega
      subst e
      go_wp2_with (first | (refine wpList_loadA Try.underlying29 rfl (.tmp 3) rfl (w.heap.size + 1) (by simp [Act.eval, Act.put]) (tdc (mapK t 24)) (szC (mapK_len t 24 (Nat.le_refl _))) HA.out ?_) | (refine wpList_storeA rfl (.tmp 2) (.tmp 14) rfl w.heap.size (by simp [Act.eval, Act.put]) (tdc z24q) (tdc (mapK t 24)) (by rw [tdc_length, tdc_length, mapK_len t 24 (Nat.le_refl _), z24q_len]) (szC (mapK_len t 24 (Nat.le_refl _))) (tdc_one _) (by simp [Act.eval, Act.put]) HZ.out ?_))
      exact bodyPost_ret (results_A Try.underlying29 Try.results25 _ _ w.heap.size (tdc (mapK t 24)) (szC (mapK_len t 24 (Nat.le_refl _))) rfl HZ.out.row) rfl ⟨congrArg _ HT.out, hb.trans (below_row _ _ _ _ (Nat.le_refl _))⟩


end Go.Proofs.Ytlincickgleddaa
