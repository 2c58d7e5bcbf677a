import Derived.Test.YtlincickgleddaaRn
import Derived.Test.YtlincickgleddaaRd
import Derived.Test.YtlincickgleddaaRe
import Derived.Deep.RegionHeld3
import Derived.Deep.RegionWith
import Derived.Deep.MidRow
import Derived.Deep.Cut
namespace Go.Proofs.Ytlincickgleddaa
open Go Go.RowKit
set_option linter.unusedVariables false
set_option linter.unusedSimpArgs false

set_option maxRecDepth 100000 in
set_option maxHeartbeats 8000000 in
theorem rewriteAfter_walk (l c : List Q4) (v : List (Nat × Nat)) (hl' : isC l) (hc' : isC c) (hh' : isH v) (w : World) :
    Calls Try.prog 7 #[cv l, cv c, hv v] w fun e w' => e = .returned (.bool true) ∧ Below w.heap.size w w' := by
  have q1 := hide_ (fun w => rwapply_any l v hl' hh' w)
  have q2 := hide_ (fun w => chas_any c v hc' hh' w)
  have q3 := hide_ (fun w => rwafter_any l c hl' hc' w)
  have q4 := hide_ (fun w => chas_any (thenC c l) (applyC l v) (thenC_isC hc' hl') (applyC_isH hl' hh') w)
  have rel := hide_ (fun e => after_rel hl' hc' hh' e)
  have q5 := fun w => rwapply_any l (applyC l v) hl' (applyC_isH hl' hh') w
  rw [applyC_twice hl' hh'] at q5
  have q5 := hide_ q5
  have aw := hide_ (fun w => awake9_any w)
  have r1 := fun w => heq_same (applyC l v) (by simp [applyC]) w
  have hA := hide_ (applyC_isH hl' hh').1
  have hl := hide_ hl'.1
  have hc := hide_ hc'.1
  have hv' := hide_ hh'.1
  clear hl' hc' hh'
  generalize hasC c v = z at *
  generalize hasC (thenC c l) (applyC l v) = z2 at *
  generalize thenC c l = T1 at *
  generalize applyC l v = AV at *
  have A0 := hide_ (((AB.at0 w  28 (tdc l)).alloc (.cells (tdc c).toArray 29)).alloc (.cells (wdc v).toArray 31))
  have A1 := hide_ ((AB.at1 w (.cells (tdc l).toArray 28) 29 (tdc c)).alloc (.cells (wdc v).toArray 31))
  have A2 := hide_ (AB.at2 w (.cells (tdc l).toArray 28) (.cells (tdc c).toArray 29) 31 (wdc v))
  have HB0 := hide_ (below3 w (.cells (tdc l).toArray 28) (.cells (tdc c).toArray 29) (.cells (wdc v).toArray 31))
  unfold cv at *
  unfold hv at *
  cases z
  · clear rel
    go_enter Try.func7, Try.ntmps7
    go_upto_region 2 with (first | (refine wpList_loadA Try.underlying28 rfl (.tmp 3) rfl w.heap.size (by simp [Act.eval, Act.put]) (tdc l) (szR hl.out) A0.out ?_) | (refine wpList_loadA Try.underlying31 rfl (.tmp 5) rfl (w.heap.size + 1 + 1) (by simp [Act.eval, Act.put]) (wdc v) (szW hv'.out) A2.out ?_) | (go_at_call 10; refine (q1.out _).mono ?_; rintro e w1 ⟨rfl, b1⟩; have Z1 : Hid (AB (w1.alloc (.cells #[.int .u64 0, .int .u64 0, .int .u64 0, .int .u64 0, .int .u64 0, .int .u64 0, .int .u64 0, .int .u64 0, .int .u64 0, .int .u64 0, .int .u64 0, .int .u64 0, .int .u64 0, .int .u64 0, .int .u64 0, .int .u64 0, .int .u64 0, .int .u64 0, .int .u64 0, .int .u64 0, .int .u64 0, .int .u64 0, .int .u64 0, .int .u64 0, .int .u64 0, .int .u64 0, .int .u64 0, .int .u64 0, .int .u64 0, .int .u64 0, .int .u64 0, .int .u64 0, .int .u64 0, .int .u64 0, .int .u64 0, .int .u64 0, .int .u64 0, .int .u64 0, .int .u64 0, .int .u64 0, .int .u64 0, .int .u64 0, .int .u64 0, .int .u64 0, .int .u64 0, .int .u64 0, .int .u64 0, .int .u64 0] 31)) w1.heap.size 31 (wdc z24)) := hide_ (by rw [zh48]; exact AB.at0 w1 31 (wdc z24))) | (refine wpList_storeA rfl (.tmp 7) (.tmp 10) rfl w1.heap.size (by simp [Act.eval, Act.put]) (wdc z24) (wdc AV) (by rw [wdc_length, wdc_length, hA.out, z24_len]) (szW hA.out) (wdc_one _) (by simp [Act.eval, Act.put]) Z1.out ?_))
    have k1 := b1.trans (((below1 w1 (.cells #[.int .u64 0, .int .u64 0, .int .u64 0, .int .u64 0, .int .u64 0, .int .u64 0, .int .u64 0, .int .u64 0, .int .u64 0, .int .u64 0, .int .u64 0, .int .u64 0, .int .u64 0, .int .u64 0, .int .u64 0, .int .u64 0, .int .u64 0, .int .u64 0, .int .u64 0, .int .u64 0, .int .u64 0, .int .u64 0, .int .u64 0, .int .u64 0, .int .u64 0, .int .u64 0, .int .u64 0, .int .u64 0, .int .u64 0, .int .u64 0, .int .u64 0, .int .u64 0, .int .u64 0, .int .u64 0, .int .u64 0, .int .u64 0, .int .u64 0, .int .u64 0, .int .u64 0, .int .u64 0, .int .u64 0, .int .u64 0, .int .u64 0, .int .u64 0, .int .u64 0, .int .u64 0, .int .u64 0, .int .u64 0] 31)).trans (below_row _ w1.heap.size _ (wdc AV).toArray (Nat.le_refl _))).mono b1.size)
    have R0 := (A0.out.later k1).range
    have R1 := (A1.out.later k1).range
    have R2 := (A2.out.later k1).range
    have R3 := (Z1.out.row (cs' := wdc AV)).range
    have HB := hide_ (HB0.out.trans (k1.mono HB0.out.size))
    clear A0 A1 A2 Z1 b1 k1 HB0
    try simp only [Act.put]
    generalize ((w1.alloc (.cells #[.int .u64 0, .int .u64 0, .int .u64 0, .int .u64 0, .int .u64 0, .int .u64 0, .int .u64 0, .int .u64 0, .int .u64 0, .int .u64 0, .int .u64 0, .int .u64 0, .int .u64 0, .int .u64 0, .int .u64 0, .int .u64 0, .int .u64 0, .int .u64 0, .int .u64 0, .int .u64 0, .int .u64 0, .int .u64 0, .int .u64 0, .int .u64 0, .int .u64 0, .int .u64 0, .int .u64 0, .int .u64 0, .int .u64 0, .int .u64 0, .int .u64 0, .int .u64 0, .int .u64 0, .int .u64 0, .int .u64 0, .int .u64 0, .int .u64 0, .int .u64 0, .int .u64 0, .int .u64 0, .int .u64 0, .int .u64 0, .int .u64 0, .int .u64 0, .int .u64 0, .int .u64 0, .int .u64 0, .int .u64 0] 31)).setRow w1.heap.size (wdc AV).toArray) = W at *
    generalize w1.heap.size = g at *
    refine wp_region_held_drew (S := (fun w' => w'.rangeAt w.heap.size 0 (tdc l) ∧ w'.rangeAt (w.heap.size + 1) 0 (tdc c) ∧ w'.rangeAt (w.heap.size + 1 + 1) 0 (wdc v) ∧ w'.rangeAt g 0 (wdc AV) ∧ Below W.heap.size W w')) (by kernel_rfl) (⟨R0, R1, R2, R3, (Below.refl _ _).drew⟩) (fun hHeld => ?_)
    refine takeL Try.underlying29 (i := 0) rfl (by kernel_rfl) (by kernel_rfl) (by kernel_rfl) (some 11) rfl (.tmp 4) rfl (by rfl) (w.heap.size + 1) rfl (tdc c) (szC hc.out) (fun w h => h.2.1) (fun _ _ _ h => h) (by assumption) ?_
    simp only [Act.put, List.setIfInBounds_toArray, List.set_cons_zero, List.set_cons_succ]
    refine takeL Try.underlying31 (i := 1) rfl (by kernel_rfl) (by kernel_rfl) (by kernel_rfl) (some 12) rfl (.tmp 5) rfl (by rfl) (w.heap.size + 1 + 1) rfl (wdc v) (szW hv'.out) (fun w h => h.2.2.1) (fun _ _ _ h => h) (by assumption) ?_
    simp only [Act.put, List.setIfInBounds_toArray, List.set_cons_zero, List.set_cons_succ]
    refine wpAnyH_ready (rs := [2]) (by kernel_rfl) (by simp) ?_
    refine AllReadyH.cons rfl (fun K hK => ?_) (AllReadyH.nil)
    go_simp
    refine (q2.out _).mono ?_
    rintro e w9 ⟨rfl, b9⟩
    refine hK.out _ _ (kG4 b9 hHeld) (fun hHeld => ?_)
    clear hK K
    try simp only [Act.put, List.setIfInBounds_toArray, List.set_cons_zero, List.set_cons_succ]
    refine takeR (i := 3) (v := ?_) rfl (by kernel_rfl) (by kernel_rfl) (by kernel_rfl) (some 14) rfl (Or.inl ⟨by rfl, ?_⟩) (fun _ _ _ h => h) (by assumption) ?_
    rotate_left
    · intro w hSw; (try dsimp only at hSw); go_simp; (try with_reducible rfl)
    simp only [Act.put, List.setIfInBounds_toArray, List.set_cons_zero, List.set_cons_succ]
    refine takeR (i := 4) (v := ?_) rfl (by kernel_rfl) (by kernel_rfl) (by kernel_rfl) (some 15) rfl (Or.inl ⟨by rfl, ?_⟩) (fun _ _ _ h => h) (by assumption) ?_
    rotate_left
    · intro w hSw; (try dsimp only at hSw); go_simp; (try with_reducible rfl)
    simp only [Act.put, List.setIfInBounds_toArray, List.set_cons_zero, List.set_cons_succ]
    refine takeR (i := 5) (v := undef) rfl (by kernel_rfl) (by kernel_rfl) (by kernel_rfl) (some 16) rfl (Or.inr ⟨by rfl, rfl⟩) (fun _ _ _ h => h) (by assumption) ?_
    simp only [Act.put, List.setIfInBounds_toArray, List.set_cons_zero, List.set_cons_succ]
    refine takeR (i := 6) (v := undef) rfl (by kernel_rfl) (by kernel_rfl) (by kernel_rfl) (some 17) rfl (Or.inr ⟨by rfl, rfl⟩) (fun _ _ _ h => h) (by assumption) ?_
    simp only [Act.put, List.setIfInBounds_toArray, List.set_cons_zero, List.set_cons_succ]
    refine takeR (i := 7) (v := undef) rfl (by kernel_rfl) (by kernel_rfl) (by kernel_rfl) (some 18) rfl (Or.inr ⟨by rfl, rfl⟩) (fun _ _ _ h => h) (by assumption) ?_
    simp only [Act.put, List.setIfInBounds_toArray, List.set_cons_zero, List.set_cons_succ]
    refine takeR (i := 8) (v := undef) rfl (by kernel_rfl) (by kernel_rfl) (by kernel_rfl) (some 19) rfl (Or.inr ⟨by rfl, rfl⟩) (fun _ _ _ h => h) (by assumption) ?_
    simp only [Act.put, List.setIfInBounds_toArray, List.set_cons_zero, List.set_cons_succ]
    refine takeR (i := 9) (v := undef) rfl (by kernel_rfl) (by kernel_rfl) (by kernel_rfl) (some 20) rfl (Or.inr ⟨by rfl, rfl⟩) (fun _ _ _ h => h) (by assumption) ?_
    simp only [Act.put, List.setIfInBounds_toArray, List.set_cons_zero, List.set_cons_succ]
    refine takeR (i := 10) (v := ?_) rfl (by kernel_rfl) (by kernel_rfl) (by kernel_rfl) (some 21) rfl (Or.inl ⟨by rfl, ?_⟩) (fun _ _ _ h => h) (by assumption) ?_
    rotate_left
    · intro w hSw; (try dsimp only at hSw); go_simp; (try with_reducible rfl)
    simp only [Act.put, List.setIfInBounds_toArray, List.set_cons_zero, List.set_cons_succ]
    refine takeR (i := 11) (v := ?_) rfl (by kernel_rfl) (by kernel_rfl) (by kernel_rfl) (some 22) rfl (Or.inl ⟨by rfl, ?_⟩) (fun _ _ _ h => h) (by assumption) ?_
    rotate_left
    · intro w hSw; (try dsimp only at hSw); go_simp; (try with_reducible rfl)
    simp only [Act.put, List.setIfInBounds_toArray, List.set_cons_zero, List.set_cons_succ]
    refine takeL Try.underlying28 (i := 12) rfl (by kernel_rfl) (by kernel_rfl) (by kernel_rfl) (some 23) rfl (.tmp 3) rfl (by rfl) w.heap.size rfl (tdc l) (szR hl.out) (fun w h => h.1) (fun _ _ _ h => h) (by assumption) ?_
    simp only [Act.put, List.setIfInBounds_toArray, List.set_cons_zero, List.set_cons_succ]
    refine takeL Try.underlying31 (i := 13) rfl (by kernel_rfl) (by kernel_rfl) (by kernel_rfl) (some 24) rfl (.tmp 7) rfl (by rfl) g rfl (wdc AV) (szW hA.out) (fun w h => h.2.2.2.1) (fun _ _ _ h => h) (by assumption) ?_
    simp only [Act.put, List.setIfInBounds_toArray, List.set_cons_zero, List.set_cons_succ]
    refine takeL Try.underlying31 (i := 15) rfl (by kernel_rfl) (by kernel_rfl) (by kernel_rfl) (some 26) rfl (.tmp 7) rfl (by rfl) g rfl (wdc AV) (szW hA.out) (fun w h => h.2.2.2.1) (fun _ _ _ h => h) (by assumption) ?_
    simp only [Act.put, List.setIfInBounds_toArray, List.set_cons_zero, List.set_cons_succ]
    refine wpAnyH_ready (rs := [14]) (by kernel_rfl) (by simp) ?_
    refine AllReadyH.cons rfl (fun K hK => ?_) (AllReadyH.nil)
    go_simp
    refine (q5.out _).mono ?_
    rintro e w9 ⟨rfl, b9⟩
    refine hK.out _ _ (kG4 b9 hHeld) (fun hHeld => ?_)
    clear hK K
    try simp only [Act.put, List.setIfInBounds_toArray, List.set_cons_zero, List.set_cons_succ]
    refine takeR (i := 16) (v := ?_) rfl (by kernel_rfl) (by kernel_rfl) (by kernel_rfl) (some 27) rfl (Or.inl ⟨by rfl, ?_⟩) (fun _ _ _ h => h) (by assumption) ?_
    rotate_left
    · intro w hSw; (try dsimp only at hSw); go_simp; (try with_reducible rfl)
    simp only [Act.put, List.setIfInBounds_toArray, List.set_cons_zero, List.set_cons_succ]
    refine takeR (i := 17) (v := ?_) rfl (by kernel_rfl) (by kernel_rfl) (by kernel_rfl) (some 28) rfl (Or.inl ⟨by rfl, ?_⟩) (fun _ _ _ h => h) (by assumption) ?_
    rotate_left
    · intro w hSw; (try dsimp only at hSw); go_simp; (try with_reducible rfl)
    simp only [Act.put, List.setIfInBounds_toArray, List.set_cons_zero, List.set_cons_succ]
    refine takeR (i := 18) (v := ?_) rfl (by kernel_rfl) (by kernel_rfl) (by kernel_rfl) (some 29) rfl (Or.inl ⟨by rfl, ?_⟩) (fun _ _ _ h => h) (by assumption) ?_
    rotate_left
    · intro w hSw; (try dsimp only at hSw); go_simp; (try with_reducible rfl)
    simp only [Act.put, List.setIfInBounds_toArray, List.set_cons_zero, List.set_cons_succ]
    refine wpAnyH_ready (rs := [19]) (by kernel_rfl) (by simp) ?_
    refine AllReadyH.cons rfl (fun K hK => ?_) (AllReadyH.nil)
    go_simp
    refine (aw.out _).mono ?_
    rintro e w9 ⟨rfl, b9⟩
    refine hK.out _ _ (kG4 b9 hHeld) (fun hHeld => ?_)
    clear hK K
    try simp only [Act.put, List.setIfInBounds_toArray, List.set_cons_zero, List.set_cons_succ]
    refine takeR (i := 20) (v := ?_) rfl (by kernel_rfl) (by kernel_rfl) (by kernel_rfl) (some 31) rfl (Or.inl ⟨by rfl, ?_⟩) (fun _ _ _ h => h) (by assumption) ?_
    rotate_left
    · intro w hSw; (try dsimp only at hSw); go_simp; (try with_reducible rfl)
    simp only [Act.put, List.setIfInBounds_toArray, List.set_cons_zero, List.set_cons_succ]
    refine takeR (i := 21) (v := ?_) rfl (by kernel_rfl) (by kernel_rfl) (by kernel_rfl) (some 6) rfl (Or.inl ⟨by rfl, ?_⟩) (fun _ _ _ h => h) (by assumption) ?_
    rotate_left
    · intro w hSw; (try dsimp only at hSw); go_simp; (try with_reducible rfl)
    simp only [Act.put, List.setIfInBounds_toArray, List.set_cons_zero, List.set_cons_succ]
    refine wpAnyH_done (by kernel_rfl) ?_ _
    have bel := hHeld.2.2.2.2
    clear hHeld
    go_wp2_with fail
    go_ret
    exact ⟨rfl, HB.out.trans (bel.mono HB.out.size)⟩
  · have e2 := rel.out rfl
    subst e2
    clear rel
    go_enter Try.func7, Try.ntmps7
    go_upto_region 2 with (first | (refine wpList_loadA Try.underlying28 rfl (.tmp 3) rfl w.heap.size (by simp [Act.eval, Act.put]) (tdc l) (szR hl.out) A0.out ?_) | (refine wpList_loadA Try.underlying31 rfl (.tmp 5) rfl (w.heap.size + 1 + 1) (by simp [Act.eval, Act.put]) (wdc v) (szW hv'.out) A2.out ?_) | (go_at_call 10; refine (q1.out _).mono ?_; rintro e w1 ⟨rfl, b1⟩; have Z1 : Hid (AB (w1.alloc (.cells #[.int .u64 0, .int .u64 0, .int .u64 0, .int .u64 0, .int .u64 0, .int .u64 0, .int .u64 0, .int .u64 0, .int .u64 0, .int .u64 0, .int .u64 0, .int .u64 0, .int .u64 0, .int .u64 0, .int .u64 0, .int .u64 0, .int .u64 0, .int .u64 0, .int .u64 0, .int .u64 0, .int .u64 0, .int .u64 0, .int .u64 0, .int .u64 0, .int .u64 0, .int .u64 0, .int .u64 0, .int .u64 0, .int .u64 0, .int .u64 0, .int .u64 0, .int .u64 0, .int .u64 0, .int .u64 0, .int .u64 0, .int .u64 0, .int .u64 0, .int .u64 0, .int .u64 0, .int .u64 0, .int .u64 0, .int .u64 0, .int .u64 0, .int .u64 0, .int .u64 0, .int .u64 0, .int .u64 0, .int .u64 0] 31)) w1.heap.size 31 (wdc z24)) := hide_ (by rw [zh48]; exact AB.at0 w1 31 (wdc z24))) | (refine wpList_storeA rfl (.tmp 7) (.tmp 10) rfl w1.heap.size (by simp [Act.eval, Act.put]) (wdc z24) (wdc AV) (by rw [wdc_length, wdc_length, hA.out, z24_len]) (szW hA.out) (wdc_one _) (by simp [Act.eval, Act.put]) Z1.out ?_))
    have k1 := b1.trans (((below1 w1 (.cells #[.int .u64 0, .int .u64 0, .int .u64 0, .int .u64 0, .int .u64 0, .int .u64 0, .int .u64 0, .int .u64 0, .int .u64 0, .int .u64 0, .int .u64 0, .int .u64 0, .int .u64 0, .int .u64 0, .int .u64 0, .int .u64 0, .int .u64 0, .int .u64 0, .int .u64 0, .int .u64 0, .int .u64 0, .int .u64 0, .int .u64 0, .int .u64 0, .int .u64 0, .int .u64 0, .int .u64 0, .int .u64 0, .int .u64 0, .int .u64 0, .int .u64 0, .int .u64 0, .int .u64 0, .int .u64 0, .int .u64 0, .int .u64 0, .int .u64 0, .int .u64 0, .int .u64 0, .int .u64 0, .int .u64 0, .int .u64 0, .int .u64 0, .int .u64 0, .int .u64 0, .int .u64 0, .int .u64 0, .int .u64 0] 31)).trans (below_row _ w1.heap.size _ (wdc AV).toArray (Nat.le_refl _))).mono b1.size)
    have R0 := (A0.out.later k1).range
    have R1 := (A1.out.later k1).range
    have R2 := (A2.out.later k1).range
    have R3 := (Z1.out.row (cs' := wdc AV)).range
    have HB := hide_ (HB0.out.trans (k1.mono HB0.out.size))
    clear A0 A1 A2 Z1 b1 k1 HB0
    try simp only [Act.put]
    generalize ((w1.alloc (.cells #[.int .u64 0, .int .u64 0, .int .u64 0, .int .u64 0, .int .u64 0, .int .u64 0, .int .u64 0, .int .u64 0, .int .u64 0, .int .u64 0, .int .u64 0, .int .u64 0, .int .u64 0, .int .u64 0, .int .u64 0, .int .u64 0, .int .u64 0, .int .u64 0, .int .u64 0, .int .u64 0, .int .u64 0, .int .u64 0, .int .u64 0, .int .u64 0, .int .u64 0, .int .u64 0, .int .u64 0, .int .u64 0, .int .u64 0, .int .u64 0, .int .u64 0, .int .u64 0, .int .u64 0, .int .u64 0, .int .u64 0, .int .u64 0, .int .u64 0, .int .u64 0, .int .u64 0, .int .u64 0, .int .u64 0, .int .u64 0, .int .u64 0, .int .u64 0, .int .u64 0, .int .u64 0, .int .u64 0, .int .u64 0] 31)).setRow w1.heap.size (wdc AV).toArray) = W at *
    generalize w1.heap.size = g at *
    refine wp_region_held_drew (S := (fun w' => w'.rangeAt w.heap.size 0 (tdc l) ∧ w'.rangeAt (w.heap.size + 1) 0 (tdc c) ∧ w'.rangeAt (w.heap.size + 1 + 1) 0 (wdc v) ∧ w'.rangeAt g 0 (wdc AV) ∧ Below W.heap.size W w')) (by kernel_rfl) (⟨R0, R1, R2, R3, (Below.refl _ _).drew⟩) (fun hHeld => ?_)
    refine takeL Try.underlying29 (i := 0) rfl (by kernel_rfl) (by kernel_rfl) (by kernel_rfl) (some 11) rfl (.tmp 4) rfl (by rfl) (w.heap.size + 1) rfl (tdc c) (szC hc.out) (fun w h => h.2.1) (fun _ _ _ h => h) (by assumption) ?_
    simp only [Act.put, List.setIfInBounds_toArray, List.set_cons_zero, List.set_cons_succ]
    refine takeL Try.underlying31 (i := 1) rfl (by kernel_rfl) (by kernel_rfl) (by kernel_rfl) (some 12) rfl (.tmp 5) rfl (by rfl) (w.heap.size + 1 + 1) rfl (wdc v) (szW hv'.out) (fun w h => h.2.2.1) (fun _ _ _ h => h) (by assumption) ?_
    simp only [Act.put, List.setIfInBounds_toArray, List.set_cons_zero, List.set_cons_succ]
    refine wpAnyH_ready (rs := [2]) (by kernel_rfl) (by simp) ?_
    refine AllReadyH.cons rfl (fun K hK => ?_) (AllReadyH.nil)
    go_simp
    refine (q2.out _).mono ?_
    rintro e w9 ⟨rfl, b9⟩
    refine hK.out _ _ (kG4 b9 hHeld) (fun hHeld => ?_)
    clear hK K
    try simp only [Act.put, List.setIfInBounds_toArray, List.set_cons_zero, List.set_cons_succ]
    refine takeR (i := 3) (v := ?_) rfl (by kernel_rfl) (by kernel_rfl) (by kernel_rfl) (some 14) rfl (Or.inl ⟨by rfl, ?_⟩) (fun _ _ _ h => h) (by assumption) ?_
    rotate_left
    · intro w hSw; (try dsimp only at hSw); go_simp; (try with_reducible rfl)
    simp only [Act.put, List.setIfInBounds_toArray, List.set_cons_zero, List.set_cons_succ]
    refine takeR (i := 4) (v := ?_) rfl (by kernel_rfl) (by kernel_rfl) (by kernel_rfl) (some 15) rfl (Or.inl ⟨by rfl, ?_⟩) (fun _ _ _ h => h) (by assumption) ?_
    rotate_left
    · intro w hSw; (try dsimp only at hSw); go_simp; (try with_reducible rfl)
    simp only [Act.put, List.setIfInBounds_toArray, List.set_cons_zero, List.set_cons_succ]
    refine takeL Try.underlying28 (i := 5) rfl (by kernel_rfl) (by kernel_rfl) (by kernel_rfl) (some 16) rfl (.tmp 3) rfl (by rfl) w.heap.size rfl (tdc l) (szR hl.out) (fun w h => h.1) (fun _ _ _ h => h) (by assumption) ?_
    simp only [Act.put, List.setIfInBounds_toArray, List.set_cons_zero, List.set_cons_succ]
    refine takeL Try.underlying29 (i := 6) rfl (by kernel_rfl) (by kernel_rfl) (by kernel_rfl) (some 17) rfl (.tmp 4) rfl (by rfl) (w.heap.size + 1) rfl (tdc c) (szC hc.out) (fun w h => h.2.1) (fun _ _ _ h => h) (by assumption) ?_
    simp only [Act.put, List.setIfInBounds_toArray, List.set_cons_zero, List.set_cons_succ]
    refine takeL Try.underlying31 (i := 8) rfl (by kernel_rfl) (by kernel_rfl) (by kernel_rfl) (some 19) rfl (.tmp 7) rfl (by rfl) g rfl (wdc AV) (szW hA.out) (fun w h => h.2.2.2.1) (fun _ _ _ h => h) (by assumption) ?_
    simp only [Act.put, List.setIfInBounds_toArray, List.set_cons_zero, List.set_cons_succ]
    refine wpAnyH_ready (rs := [7]) (by kernel_rfl) (by simp) ?_
    refine AllReadyH.cons rfl (fun K hK => ?_) (AllReadyH.nil)
    go_simp
    refine (q3.out _).mono ?_
    rintro e w9 ⟨rfl, b9⟩
    refine hK.out _ _ (kG4 b9 hHeld) (fun hHeld => ?_)
    clear hK K
    try simp only [Act.put, List.setIfInBounds_toArray, List.set_cons_zero, List.set_cons_succ]
    refine wpAnyH_ready (rs := [9]) (by kernel_rfl) (by simp) ?_
    refine AllReadyH.cons rfl (fun K hK => ?_) (AllReadyH.nil)
    go_simp
    refine (q4.out _).mono ?_
    rintro e w9 ⟨rfl, b9⟩
    refine hK.out _ _ (kG4 b9 hHeld) (fun hHeld => ?_)
    clear hK K
    try simp only [Act.put, List.setIfInBounds_toArray, List.set_cons_zero, List.set_cons_succ]
    refine takeR (i := 10) (v := ?_) rfl (by kernel_rfl) (by kernel_rfl) (by kernel_rfl) (some 21) rfl (Or.inl ⟨by rfl, ?_⟩) (fun _ _ _ h => h) (by assumption) ?_
    rotate_left
    · intro w hSw; (try dsimp only at hSw); go_simp; (try with_reducible rfl)
    simp only [Act.put, List.setIfInBounds_toArray, List.set_cons_zero, List.set_cons_succ]
    refine takeR (i := 11) (v := ?_) rfl (by kernel_rfl) (by kernel_rfl) (by kernel_rfl) (some 22) rfl (Or.inl ⟨by rfl, ?_⟩) (fun _ _ _ h => h) (by assumption) ?_
    rotate_left
    · intro w hSw; (try dsimp only at hSw); go_simp; (try with_reducible rfl)
    simp only [Act.put, List.setIfInBounds_toArray, List.set_cons_zero, List.set_cons_succ]
    refine takeL Try.underlying28 (i := 12) rfl (by kernel_rfl) (by kernel_rfl) (by kernel_rfl) (some 23) rfl (.tmp 3) rfl (by rfl) w.heap.size rfl (tdc l) (szR hl.out) (fun w h => h.1) (fun _ _ _ h => h) (by assumption) ?_
    simp only [Act.put, List.setIfInBounds_toArray, List.set_cons_zero, List.set_cons_succ]
    refine takeL Try.underlying31 (i := 13) rfl (by kernel_rfl) (by kernel_rfl) (by kernel_rfl) (some 24) rfl (.tmp 7) rfl (by rfl) g rfl (wdc AV) (szW hA.out) (fun w h => h.2.2.2.1) (fun _ _ _ h => h) (by assumption) ?_
    simp only [Act.put, List.setIfInBounds_toArray, List.set_cons_zero, List.set_cons_succ]
    refine takeL Try.underlying31 (i := 15) rfl (by kernel_rfl) (by kernel_rfl) (by kernel_rfl) (some 26) rfl (.tmp 7) rfl (by rfl) g rfl (wdc AV) (szW hA.out) (fun w h => h.2.2.2.1) (fun _ _ _ h => h) (by assumption) ?_
    simp only [Act.put, List.setIfInBounds_toArray, List.set_cons_zero, List.set_cons_succ]
    refine wpAnyH_ready (rs := [14]) (by kernel_rfl) (by simp) ?_
    refine AllReadyH.cons rfl (fun K hK => ?_) (AllReadyH.nil)
    go_simp
    refine (q5.out _).mono ?_
    rintro e w9 ⟨rfl, b9⟩
    refine hK.out _ _ (kG4 b9 hHeld) (fun hHeld => ?_)
    clear hK K
    try simp only [Act.put, List.setIfInBounds_toArray, List.set_cons_zero, List.set_cons_succ]
    refine takeR (i := 16) (v := ?_) rfl (by kernel_rfl) (by kernel_rfl) (by kernel_rfl) (some 27) rfl (Or.inl ⟨by rfl, ?_⟩) (fun _ _ _ h => h) (by assumption) ?_
    rotate_left
    · intro w hSw; (try dsimp only at hSw); go_simp; (try with_reducible rfl)
    simp only [Act.put, List.setIfInBounds_toArray, List.set_cons_zero, List.set_cons_succ]
    refine takeR (i := 17) (v := ?_) rfl (by kernel_rfl) (by kernel_rfl) (by kernel_rfl) (some 28) rfl (Or.inl ⟨by rfl, ?_⟩) (fun _ _ _ h => h) (by assumption) ?_
    rotate_left
    · intro w hSw; (try dsimp only at hSw); go_simp; (try with_reducible rfl)
    simp only [Act.put, List.setIfInBounds_toArray, List.set_cons_zero, List.set_cons_succ]
    refine takeR (i := 18) (v := ?_) rfl (by kernel_rfl) (by kernel_rfl) (by kernel_rfl) (some 29) rfl (Or.inl ⟨by rfl, ?_⟩) (fun _ _ _ h => h) (by assumption) ?_
    rotate_left
    · intro w hSw; (try dsimp only at hSw); go_simp; (try with_reducible rfl)
    simp only [Act.put, List.setIfInBounds_toArray, List.set_cons_zero, List.set_cons_succ]
    refine wpAnyH_ready (rs := [19]) (by kernel_rfl) (by simp) ?_
    refine AllReadyH.cons rfl (fun K hK => ?_) (AllReadyH.nil)
    go_simp
    refine (aw.out _).mono ?_
    rintro e w9 ⟨rfl, b9⟩
    refine hK.out _ _ (kG4 b9 hHeld) (fun hHeld => ?_)
    clear hK K
    try simp only [Act.put, List.setIfInBounds_toArray, List.set_cons_zero, List.set_cons_succ]
    refine takeR (i := 20) (v := ?_) rfl (by kernel_rfl) (by kernel_rfl) (by kernel_rfl) (some 31) rfl (Or.inl ⟨by rfl, ?_⟩) (fun _ _ _ h => h) (by assumption) ?_
    rotate_left
    · intro w hSw; (try dsimp only at hSw); go_simp; (try with_reducible rfl)
    simp only [Act.put, List.setIfInBounds_toArray, List.set_cons_zero, List.set_cons_succ]
    refine takeR (i := 21) (v := ?_) rfl (by kernel_rfl) (by kernel_rfl) (by kernel_rfl) (some 6) rfl (Or.inl ⟨by rfl, ?_⟩) (fun _ _ _ h => h) (by assumption) ?_
    rotate_left
    · intro w hSw; (try dsimp only at hSw); go_simp; (try with_reducible rfl)
    simp only [Act.put, List.setIfInBounds_toArray, List.set_cons_zero, List.set_cons_succ]
    refine wpAnyH_done (by kernel_rfl) ?_ _
    have bel := hHeld.2.2.2.2
    clear hHeld
    go_wp2_with fail
    go_ret
    exact ⟨rfl, HB.out.trans (bel.mono HB.out.size)⟩


end Go.Proofs.Ytlincickgleddaa
