import Derived.Test.YtlincickgleddaaRn
import Derived.Test.YtlincickgleddaaRd
import Derived.Test.YtlincickgleddaaRe
import Derived.Test.YtlincickgleddaaRz
import Derived.Deep.RegionHeld3
import Derived.Deep.RegionWith
import Derived.Deep.MidRow
import Derived.Deep.Cut
namespace Go.Proofs.Ytlincickgleddaa
open Go Go.RowKit
set_option linter.unusedVariables false
set_option linter.unusedSimpArgs false

set_option maxRecDepth 100000 in
set_option maxHeartbeats 8000000 in
theorem rewriteBefore_walk (l c : List Q4) (v : List (Nat × Nat)) (hl' : isC l) (hc' : isC c) (hh' : isH v) (w : World) :
    Calls Try.prog 6 #[cv l, cv c, hv v] w fun e w' => e = .returned (.bool true) ∧ Below w.heap.size w w' := by
  have hBC : isC (beforeC l c) := beforeC_isC hl' hc'
  have q1 : Hid (∀ w, Calls Try.prog 8 #[cv l, cv c] w fun e w' => e = .returned (.tuple #[cv (beforeC l c), .bool (okC l c)]) ∧ Below w.heap.size w w') := hide_ (fun w => rwbefore_any l c hl' hc' w)
  have q2 := hide_ (fun w => rwapply_any l v hl' hh' w)
  have q3 := fun w => chas_any c (applyC l v) hc' (applyC_isH hl' hh') w
  have q4 := hide_ (fun w => chas_any (beforeC l c) v hBC hh' w)
  rw [beforeC_rel hl' hc' hh'] at q3
  have q3 := hide_ q3
  have aw := hide_ (fun w => awake9_any w)
  have hl := hide_ hl'.1
  have hc := hide_ hc'.1
  have hv' := hide_ hh'.1
  have hB := hide_ hBC.1
  clear hl' hc' hh' hBC
  generalize hasC (beforeC l c) v = z at *
  generalize beforeC l c = B at *
  generalize okC l c = ok at *
  generalize applyC l v = AV at *
  have A0 := hide_ (((AB.at0 w  28 (tdc l)).alloc (.cells (tdc c).toArray 29)).alloc (.cells (wdc v).toArray 31))
  have A1 := hide_ ((AB.at1 w (.cells (tdc l).toArray 28) 29 (tdc c)).alloc (.cells (wdc v).toArray 31))
  have A2 := hide_ (AB.at2 w (.cells (tdc l).toArray 28) (.cells (tdc c).toArray 29) 31 (wdc v))
  have HB0 := hide_ (below3 w (.cells (tdc l).toArray 28) (.cells (tdc c).toArray 29) (.cells (wdc v).toArray 31))
  unfold cv at *
  unfold hv at *
  obtain ⟨hz0, -⟩ := zero_of_info zC'
  cases ok
  · rw [Bool.false_and] at q3
    go_enter Try.func6, Try.ntmps6
    go_upto_region 2 with (first | (refine wpList_loadA Try.underlying28 rfl (.tmp 3) rfl w.heap.size (by simp [Act.eval, Act.put]) (tdc l) (szR hl.out) A0.out ?_) | (refine wpList_loadA Try.underlying29 rfl (.tmp 4) rfl (w.heap.size + 1) (by simp [Act.eval, Act.put]) (tdc c) (szC hc.out) A1.out ?_) | (go_at_call 8; refine (q1.out _).mono ?_; rintro e w1 ⟨rfl, b1⟩; have Z1 := hide_ (AB.at0 w1 29 (tdc z24q))) | (refine wpList_storeA rfl (.tmp 7) (.tmp 13) rfl w1.heap.size (by simp [Act.eval, Act.put]) (tdc z24q) (tdc B) (by rw [tdc_length, tdc_length, hB.out, z24q_len]) (szC hB.out) (tdc_one _) (by simp [Act.eval, Act.put]) Z1.out ?_))
    have k1 := b1.trans (((below1 w1 (.cells (tdc z24q).toArray 29)).trans (below_row _ w1.heap.size _ (tdc B).toArray (Nat.le_refl _))).mono b1.size)
    have R0 := (A0.out.later k1).range
    have R1 := (A1.out.later k1).range
    have R2 := (A2.out.later k1).range
    have R3 := (Z1.out.row (cs' := tdc B)).range
    have HB := hide_ (HB0.out.trans (k1.mono HB0.out.size))
    clear A0 A1 A2 Z1 b1 k1 HB0
    try simp only [Act.put]
    generalize ((w1.alloc (.cells (tdc z24q).toArray 29)).setRow w1.heap.size (tdc B).toArray) = W at *
    generalize w1.heap.size = g at *
    refine wp_region_held_drew (S := (fun w' => w'.rangeAt w.heap.size 0 (tdc l) ∧ w'.rangeAt (w.heap.size + 1) 0 (tdc c) ∧ w'.rangeAt (w.heap.size + 1 + 1) 0 (wdc v) ∧ w'.rangeAt g 0 (tdc B) ∧ Below W.heap.size W w')) (by kernel_rfl) (⟨R0, R1, R2, R3, (Below.refl _ _).drew⟩) (fun hHeld => ?_)
    refine takeL Try.underlying29 (i := 0) rfl (by kernel_rfl) (by kernel_rfl) (by kernel_rfl) (some 15) rfl (.tmp 4) rfl (by rfl) (w.heap.size + 1) rfl (tdc c) (szC hc.out) (fun w h => h.2.1) (fun _ _ _ h => h) (by assumption) ?_
    simp only [Act.put, List.setIfInBounds_toArray, List.set_cons_zero, List.set_cons_succ]
    refine takeL Try.underlying28 (i := 1) rfl (by kernel_rfl) (by kernel_rfl) (by kernel_rfl) (some 16) rfl (.tmp 3) rfl (by rfl) w.heap.size rfl (tdc l) (szR hl.out) (fun w h => h.1) (fun _ _ _ h => h) (by assumption) ?_
    simp only [Act.put, List.setIfInBounds_toArray, List.set_cons_zero, List.set_cons_succ]
    refine takeL Try.underlying31 (i := 2) rfl (by kernel_rfl) (by kernel_rfl) (by kernel_rfl) (some 17) rfl (.tmp 5) rfl (by rfl) (w.heap.size + 1 + 1) rfl (wdc v) (szW hv'.out) (fun w h => h.2.2.1) (fun _ _ _ h => h) (by assumption) ?_
    simp only [Act.put, List.setIfInBounds_toArray, List.set_cons_zero, List.set_cons_succ]
    refine takeR (i := 5) (v := ?_) rfl (by kernel_rfl) (by kernel_rfl) (by kernel_rfl) (some 20) rfl (Or.inl ⟨by rfl, ?_⟩) (fun _ _ _ h => h) (by assumption) ?_
    rotate_left
    · intro w hSw; (try dsimp only at hSw); go_simp; (try with_reducible rfl)
    simp only [Act.put, List.setIfInBounds_toArray, List.set_cons_zero, List.set_cons_succ]
    refine wpAnyH_ready (rs := [3]) (by kernel_rfl) (by simp) ?_
    refine AllReadyH.cons rfl (fun K hK => ?_) (AllReadyH.nil)
    go_simp
    refine (q2.out _).mono ?_
    rintro e w9 ⟨rfl, b9⟩
    refine hK.out _ _ (kG4 b9 hHeld) (fun hHeld => ?_)
    clear hK K
    try simp only [Act.put, List.setIfInBounds_toArray, List.set_cons_zero, List.set_cons_succ]
    refine wpAnyH_ready (rs := [4]) (by kernel_rfl) (by simp) ?_
    refine AllReadyH.cons rfl (fun K hK => ?_) (AllReadyH.nil)
    go_simp
    refine (q3.out _).mono ?_
    rintro e w9 ⟨rfl, b9⟩
    refine hK.out _ _ (kG4 b9 hHeld) (fun hHeld => ?_)
    clear hK K
    try simp only [Act.put, List.setIfInBounds_toArray, List.set_cons_zero, List.set_cons_succ]
    refine takeR (i := 6) (v := ?_) rfl (by kernel_rfl) (by kernel_rfl) (by kernel_rfl) (some 21) rfl (Or.inl ⟨by rfl, ?_⟩) (fun _ _ _ h => h) (by assumption) ?_
    rotate_left
    · intro w hSw; (try dsimp only at hSw); go_simp; (try with_reducible rfl)
    simp only [Act.put, List.setIfInBounds_toArray, List.set_cons_zero, List.set_cons_succ]
    refine takeR (i := 7) (v := undef) rfl (by kernel_rfl) (by kernel_rfl) (by kernel_rfl) (some 22) rfl (Or.inr ⟨by rfl, rfl⟩) (fun _ _ _ h => h) (by assumption) ?_
    simp only [Act.put, List.setIfInBounds_toArray, List.set_cons_zero, List.set_cons_succ]
    refine takeR (i := 8) (v := undef) rfl (by kernel_rfl) (by kernel_rfl) (by kernel_rfl) (some 23) rfl (Or.inr ⟨by rfl, rfl⟩) (fun _ _ _ h => h) (by assumption) ?_
    simp only [Act.put, List.setIfInBounds_toArray, List.set_cons_zero, List.set_cons_succ]
    refine takeR (i := 9) (v := undef) rfl (by kernel_rfl) (by kernel_rfl) (by kernel_rfl) (some 24) rfl (Or.inr ⟨by rfl, rfl⟩) (fun _ _ _ h => h) (by assumption) ?_
    simp only [Act.put, List.setIfInBounds_toArray, List.set_cons_zero, List.set_cons_succ]
    refine takeR (i := 10) (v := ?_) rfl (by kernel_rfl) (by kernel_rfl) (by kernel_rfl) (some 25) rfl (Or.inl ⟨by rfl, ?_⟩) (fun _ _ _ h => h) (by assumption) ?_
    rotate_left
    · intro w hSw; (try dsimp only at hSw); go_simp; (try with_reducible rfl)
    simp only [Act.put, List.setIfInBounds_toArray, List.set_cons_zero, List.set_cons_succ]
    refine takeR (i := 11) (v := ?_) rfl (by kernel_rfl) (by kernel_rfl) (by kernel_rfl) (some 26) rfl (Or.inl ⟨by rfl, ?_⟩) (fun _ _ _ h => h) (by assumption) ?_
    rotate_left
    · intro w hSw; (try dsimp only at hSw); go_simp; (try with_reducible rfl)
    simp only [Act.put, List.setIfInBounds_toArray, List.set_cons_zero, List.set_cons_succ]
    refine takeR (i := 12) (v := ?_) rfl (by kernel_rfl) (by kernel_rfl) (by kernel_rfl) (some 27) rfl (Or.inl ⟨by rfl, ?_⟩) (fun _ _ _ h => h) (by assumption) ?_
    rotate_left
    · intro w hSw; (try dsimp only at hSw); go_simp; (try with_reducible rfl)
    simp only [Act.put, List.setIfInBounds_toArray, List.set_cons_zero, List.set_cons_succ]
    refine wpAnyH_ready (rs := [13]) (by kernel_rfl) (by simp) ?_
    refine AllReadyH.cons rfl (fun K hK => ?_) (AllReadyH.nil)
    go_simp
    refine (aw.out _).mono ?_
    rintro e w9 ⟨rfl, b9⟩
    refine hK.out _ _ (kG4 b9 hHeld) (fun hHeld => ?_)
    clear hK K
    try simp only [Act.put, List.setIfInBounds_toArray, List.set_cons_zero, List.set_cons_succ]
    refine takeR (i := 14) (v := ?_) rfl (by kernel_rfl) (by kernel_rfl) (by kernel_rfl) (some 29) rfl (Or.inl ⟨by rfl, ?_⟩) (fun _ _ _ h => h) (by assumption) ?_
    rotate_left
    · intro w hSw; (try dsimp only at hSw); go_simp; (try with_reducible rfl)
    simp only [Act.put, List.setIfInBounds_toArray, List.set_cons_zero, List.set_cons_succ]
    refine takeR (i := 15) (v := ?_) rfl (by kernel_rfl) (by kernel_rfl) (by kernel_rfl) (some 6) rfl (Or.inl ⟨by rfl, ?_⟩) (fun _ _ _ h => h) (by assumption) ?_
    rotate_left
    · intro w hSw; (try dsimp only at hSw); go_simp; (try with_reducible rfl)
    simp only [Act.put, List.setIfInBounds_toArray, List.set_cons_zero, List.set_cons_succ]
    refine wpAnyH_done (by kernel_rfl) ?_ _
    have bel := hHeld.2.2.2.2
    clear hHeld
    go_wp2_with fail
    go_ret
    exact ⟨rfl, HB.out.trans (bel.mono HB.out.size)⟩
  · rw [Bool.true_and] at q3
    cases z
    all_goals
      go_enter Try.func6, Try.ntmps6
      go_upto_region 2 with (first | (refine wpList_loadA Try.underlying28 rfl (.tmp 3) rfl w.heap.size (by simp [Act.eval, Act.put]) (tdc l) (szR hl.out) A0.out ?_) | (refine wpList_loadA Try.underlying29 rfl (.tmp 4) rfl (w.heap.size + 1) (by simp [Act.eval, Act.put]) (tdc c) (szC hc.out) A1.out ?_) | (go_at_call 8; refine (q1.out _).mono ?_; rintro e w1 ⟨rfl, b1⟩; have Z1 := hide_ (AB.at0 w1 29 (tdc z24q))) | (refine wpList_storeA rfl (.tmp 7) (.tmp 13) rfl w1.heap.size (by simp [Act.eval, Act.put]) (tdc z24q) (tdc B) (by rw [tdc_length, tdc_length, hB.out, z24q_len]) (szC hB.out) (tdc_one _) (by simp [Act.eval, Act.put]) Z1.out ?_))
      have k1 := b1.trans (((below1 w1 (.cells (tdc z24q).toArray 29)).trans (below_row _ w1.heap.size _ (tdc B).toArray (Nat.le_refl _))).mono b1.size)
      have R0 := (A0.out.later k1).range
      have R1 := (A1.out.later k1).range
      have R2 := (A2.out.later k1).range
      have R3 := (Z1.out.row (cs' := tdc B)).range
      have HB := hide_ (HB0.out.trans (k1.mono HB0.out.size))
      clear A0 A1 A2 Z1 b1 k1 HB0
      try simp only [Act.put]
      generalize ((w1.alloc (.cells (tdc z24q).toArray 29)).setRow w1.heap.size (tdc B).toArray) = W at *
      generalize w1.heap.size = g at *
      refine wp_region_held_drew (S := (fun w' => w'.rangeAt w.heap.size 0 (tdc l) ∧ w'.rangeAt (w.heap.size + 1) 0 (tdc c) ∧ w'.rangeAt (w.heap.size + 1 + 1) 0 (wdc v) ∧ w'.rangeAt g 0 (tdc B) ∧ Below W.heap.size W w')) (by kernel_rfl) (⟨R0, R1, R2, R3, (Below.refl _ _).drew⟩) (fun hHeld => ?_)
      refine takeL Try.underlying29 (i := 0) rfl (by kernel_rfl) (by kernel_rfl) (by kernel_rfl) (some 15) rfl (.tmp 4) rfl (by rfl) (w.heap.size + 1) rfl (tdc c) (szC hc.out) (fun w h => h.2.1) (fun _ _ _ h => h) (by assumption) ?_
      simp only [Act.put, List.setIfInBounds_toArray, List.set_cons_zero, List.set_cons_succ]
      refine takeL Try.underlying28 (i := 1) rfl (by kernel_rfl) (by kernel_rfl) (by kernel_rfl) (some 16) rfl (.tmp 3) rfl (by rfl) w.heap.size rfl (tdc l) (szR hl.out) (fun w h => h.1) (fun _ _ _ h => h) (by assumption) ?_
      simp only [Act.put, List.setIfInBounds_toArray, List.set_cons_zero, List.set_cons_succ]
      refine takeL Try.underlying31 (i := 2) rfl (by kernel_rfl) (by kernel_rfl) (by kernel_rfl) (some 17) rfl (.tmp 5) rfl (by rfl) (w.heap.size + 1 + 1) rfl (wdc v) (szW hv'.out) (fun w h => h.2.2.1) (fun _ _ _ h => h) (by assumption) ?_
      simp only [Act.put, List.setIfInBounds_toArray, List.set_cons_zero, List.set_cons_succ]
      refine takeR (i := 5) (v := ?_) rfl (by kernel_rfl) (by kernel_rfl) (by kernel_rfl) (some 20) rfl (Or.inl ⟨by rfl, ?_⟩) (fun _ _ _ h => h) (by assumption) ?_
      rotate_left
      · intro w hSw; (try dsimp only at hSw); go_simp; (try with_reducible rfl)
      simp only [Act.put, List.setIfInBounds_toArray, List.set_cons_zero, List.set_cons_succ]
      refine wpAnyH_ready (rs := [3]) (by kernel_rfl) (by simp) ?_
      refine AllReadyH.cons rfl (fun K hK => ?_) (AllReadyH.nil)
      go_simp
      refine (q2.out _).mono ?_
      rintro e w9 ⟨rfl, b9⟩
      refine hK.out _ _ (kG4 b9 hHeld) (fun hHeld => ?_)
      clear hK K
      try simp only [Act.put, List.setIfInBounds_toArray, List.set_cons_zero, List.set_cons_succ]
      refine wpAnyH_ready (rs := [4]) (by kernel_rfl) (by simp) ?_
      refine AllReadyH.cons rfl (fun K hK => ?_) (AllReadyH.nil)
      go_simp
      refine (q3.out _).mono ?_
      rintro e w9 ⟨rfl, b9⟩
      refine hK.out _ _ (kG4 b9 hHeld) (fun hHeld => ?_)
      clear hK K
      try simp only [Act.put, List.setIfInBounds_toArray, List.set_cons_zero, List.set_cons_succ]
      refine takeR (i := 6) (v := ?_) rfl (by kernel_rfl) (by kernel_rfl) (by kernel_rfl) (some 21) rfl (Or.inl ⟨by rfl, ?_⟩) (fun _ _ _ h => h) (by assumption) ?_
      rotate_left
      · intro w hSw; (try dsimp only at hSw); go_simp; (try with_reducible rfl)
      simp only [Act.put, List.setIfInBounds_toArray, List.set_cons_zero, List.set_cons_succ]
      refine takeL Try.underlying29 (i := 7) rfl (by kernel_rfl) (by kernel_rfl) (by kernel_rfl) (some 22) rfl (.tmp 7) rfl (by rfl) g rfl (tdc B) (szC hB.out) (fun w h => h.2.2.2.1) (fun _ _ _ h => h) (by assumption) ?_
      simp only [Act.put, List.setIfInBounds_toArray, List.set_cons_zero, List.set_cons_succ]
      refine takeL Try.underlying31 (i := 8) rfl (by kernel_rfl) (by kernel_rfl) (by kernel_rfl) (some 23) rfl (.tmp 5) rfl (by rfl) (w.heap.size + 1 + 1) rfl (wdc v) (szW hv'.out) (fun w h => h.2.2.1) (fun _ _ _ h => h) (by assumption) ?_
      simp only [Act.put, List.setIfInBounds_toArray, List.set_cons_zero, List.set_cons_succ]
      refine wpAnyH_ready (rs := [9]) (by kernel_rfl) (by simp) ?_
      refine AllReadyH.cons rfl (fun K hK => ?_) (AllReadyH.nil)
      go_simp
      refine (q4.out _).mono ?_
      rintro e w9 ⟨rfl, b9⟩
      refine hK.out _ _ (kG4 b9 hHeld) (fun hHeld => ?_)
      clear hK K
      try simp only [Act.put, List.setIfInBounds_toArray, List.set_cons_zero, List.set_cons_succ]
      refine takeR (i := 10) (v := ?_) rfl (by kernel_rfl) (by kernel_rfl) (by kernel_rfl) (some 25) rfl (Or.inl ⟨by rfl, ?_⟩) (fun _ _ _ h => h) (by assumption) ?_
      rotate_left
      · intro w hSw; (try dsimp only at hSw); go_simp; (try with_reducible rfl)
      simp only [Act.put, List.setIfInBounds_toArray, List.set_cons_zero, List.set_cons_succ]
      refine takeR (i := 11) (v := ?_) rfl (by kernel_rfl) (by kernel_rfl) (by kernel_rfl) (some 26) rfl (Or.inl ⟨by rfl, ?_⟩) (fun _ _ _ h => h) (by assumption) ?_
      rotate_left
      · intro w hSw; (try dsimp only at hSw); go_simp; (try with_reducible rfl)
      simp only [Act.put, List.setIfInBounds_toArray, List.set_cons_zero, List.set_cons_succ]
      refine takeR (i := 12) (v := ?_) rfl (by kernel_rfl) (by kernel_rfl) (by kernel_rfl) (some 27) rfl (Or.inl ⟨by rfl, ?_⟩) (fun _ _ _ h => h) (by assumption) ?_
      rotate_left
      · intro w hSw; (try dsimp only at hSw); go_simp; (try with_reducible rfl)
      simp only [Act.put, List.setIfInBounds_toArray, List.set_cons_zero, List.set_cons_succ]
      refine wpAnyH_ready (rs := [13]) (by kernel_rfl) (by simp) ?_
      refine AllReadyH.cons rfl (fun K hK => ?_) (AllReadyH.nil)
      go_simp
      refine (aw.out _).mono ?_
      rintro e w9 ⟨rfl, b9⟩
      refine hK.out _ _ (kG4 b9 hHeld) (fun hHeld => ?_)
      clear hK K
      try simp only [Act.put, List.setIfInBounds_toArray, List.set_cons_zero, List.set_cons_succ]
      refine takeR (i := 14) (v := ?_) rfl (by kernel_rfl) (by kernel_rfl) (by kernel_rfl) (some 29) rfl (Or.inl ⟨by rfl, ?_⟩) (fun _ _ _ h => h) (by assumption) ?_
      rotate_left
      · intro w hSw; (try dsimp only at hSw); go_simp; (try with_reducible rfl)
      simp only [Act.put, List.setIfInBounds_toArray, List.set_cons_zero, List.set_cons_succ]
      refine takeR (i := 15) (v := ?_) rfl (by kernel_rfl) (by kernel_rfl) (by kernel_rfl) (some 6) rfl (Or.inl ⟨by rfl, ?_⟩) (fun _ _ _ h => h) (by assumption) ?_
      rotate_left
      · intro w hSw; (try dsimp only at hSw); go_simp; (try with_reducible rfl)
      simp only [Act.put, List.setIfInBounds_toArray, List.set_cons_zero, List.set_cons_succ]
      refine wpAnyH_done (by kernel_rfl) ?_ _
      have bel := hHeld.2.2.2.2
      clear hHeld
      go_wp2_with fail
      go_ret
      exact ⟨rfl, HB.out.trans (bel.mono HB.out.size)⟩


end Go.Proofs.Ytlincickgleddaa
