import Derived.Test.YtlincickgleddaaRn
import Derived.Test.YtlincickgleddaaRd
import Derived.Test.YtlincickgleddaaRe
import Derived.Deep.RegionHeld3
import Derived.Deep.RegionWith
import Derived.Deep.MidRow
import Derived.Deep.Cut
namespace Go.Proofs.Ytlincickgleddaa
open Go Go.RowKit
set_option linter.unusedVariables false
set_option linter.unusedSimpArgs false

set_option maxRecDepth 100000 in
set_option maxHeartbeats 8000000 in
theorem rewriteThen_walk (l m c : List Q4) (v : List (Nat × Nat)) (hl' : isC l) (hm' : isC m) (hc' : isC c) (hh' : isH v) (w : World) :
    Calls Try.prog 5 #[cv l, cv m, cv c, hv v] w fun e w' => e = .returned (.bool true) ∧ Below w.heap.size w w' := by
  have q1 := hide_ (fun w => rwthen_any l m hl' hm' w)
  have q2 := hide_ (fun w => rwapply_any (thenC l m) v (thenC_isC hl' hm') hh' w)
  have q3 := hide_ (fun w => rwapply_any l v hl' hh' w)
  have q4 := fun w => rwapply_any m (applyC l v) hm' (applyC_isH hl' hh') w
  rw [← applyC_then hl' hm' hh'] at q4
  have q4 := hide_ q4
  have q5 := hide_ (fun w => rwthen_any (thenC l m) c (thenC_isC hl' hm') hc' w)
  have q6 := hide_ (fun w => rwthen_any m c hm' hc' w)
  have q7 := fun w => rwthen_any l (thenC m c) hl' (thenC_isC hm' hc') w
  rw [← thenC_assoc hl' hm' hc'] at q7
  have q7 := hide_ q7
  have aw := hide_ (fun w => awake9_any w)
  have r1 := fun w => heq_same (applyC (thenC l m) v) (by simp [applyC]) w
  have r2 := fun w => req_same (thenC (thenC l m) c) (map_len _) w
  have hl := hide_ hl'.1
  have hm := hide_ hm'.1
  have hc := hide_ hc'.1
  have hv' := hide_ hh'.1
  clear hl' hm' hc' hh'
  generalize applyC (thenC l m) v = A1 at *
  generalize applyC l v = A2 at *
  generalize thenC (thenC l m) c = X at *
  generalize thenC l m = T1 at *
  generalize thenC m c = T2 at *
  have R0 := ((((AB.at0 w  28 (tdc l)).alloc (.cells (tdc m).toArray 28)).alloc (.cells (tdc c).toArray 28)).alloc (.cells (wdc v).toArray 31)).range
  have R1 := (((AB.at1 w (.cells (tdc l).toArray 28) 28 (tdc m)).alloc (.cells (tdc c).toArray 28)).alloc (.cells (wdc v).toArray 31)).range
  have R2 := ((AB.at2 w (.cells (tdc l).toArray 28) (.cells (tdc m).toArray 28) 28 (tdc c)).alloc (.cells (wdc v).toArray 31)).range
  have R3 := (AB.at3 w (.cells (tdc l).toArray 28) (.cells (tdc m).toArray 28) (.cells (tdc c).toArray 28) 31 (wdc v)).range
  have HB := hide_ (below4 w (.cells (tdc l).toArray 28) (.cells (tdc m).toArray 28) (.cells (tdc c).toArray 28) (.cells (wdc v).toArray 31))
  unfold cv at *
  unfold hv at *
  go_enter Try.func5, Try.ntmps5
  go_wp2_with fail
  generalize ((((w.alloc (.cells (tdc l).toArray 28)).alloc (.cells (tdc m).toArray 28)).alloc (.cells (tdc c).toArray 28)).alloc (.cells (wdc v).toArray 31)) = W at *
  refine wp_region_held_drew (S := (fun w' => w'.rangeAt w.heap.size 0 (tdc l) ∧ w'.rangeAt (w.heap.size + 1) 0 (tdc m) ∧ w'.rangeAt (w.heap.size + 1 + 1) 0 (tdc c) ∧ w'.rangeAt (w.heap.size + 1 + 1 + 1) 0 (wdc v) ∧ Below W.heap.size W w')) (by kernel_rfl) (⟨R0, R1, R2, R3, (Below.refl _ _).drew⟩) (fun hHeld => ?_)
  refine takeL Try.underlying28 (i := 0) rfl (by kernel_rfl) (by kernel_rfl) (by kernel_rfl) (some 9) rfl (.tmp 4) rfl (by rfl) w.heap.size rfl (tdc l) (szR hl.out) (fun w h => h.1) (fun _ _ _ h => h) (by assumption) ?_
  simp only [Act.put, List.setIfInBounds_toArray, List.set_cons_zero, List.set_cons_succ]
  refine takeL Try.underlying28 (i := 1) rfl (by kernel_rfl) (by kernel_rfl) (by kernel_rfl) (some 10) rfl (.tmp 5) rfl (by rfl) (w.heap.size + 1) rfl (tdc m) (szR hm.out) (fun w h => h.2.1) (fun _ _ _ h => h) (by assumption) ?_
  simp only [Act.put, List.setIfInBounds_toArray, List.set_cons_zero, List.set_cons_succ]
  refine takeL Try.underlying31 (i := 3) rfl (by kernel_rfl) (by kernel_rfl) (by kernel_rfl) (some 12) rfl (.tmp 7) rfl (by rfl) (w.heap.size + 1 + 1 + 1) rfl (wdc v) (szW hv'.out) (fun w h => h.2.2.2.1) (fun _ _ _ h => h) (by assumption) ?_
  simp only [Act.put, List.setIfInBounds_toArray, List.set_cons_zero, List.set_cons_succ]
  refine takeL Try.underlying28 (i := 5) rfl (by kernel_rfl) (by kernel_rfl) (by kernel_rfl) (some 14) rfl (.tmp 5) rfl (by rfl) (w.heap.size + 1) rfl (tdc m) (szR hm.out) (fun w h => h.2.1) (fun _ _ _ h => h) (by assumption) ?_
  simp only [Act.put, List.setIfInBounds_toArray, List.set_cons_zero, List.set_cons_succ]
  refine takeL Try.underlying28 (i := 6) rfl (by kernel_rfl) (by kernel_rfl) (by kernel_rfl) (some 15) rfl (.tmp 4) rfl (by rfl) w.heap.size rfl (tdc l) (szR hl.out) (fun w h => h.1) (fun _ _ _ h => h) (by assumption) ?_
  simp only [Act.put, List.setIfInBounds_toArray, List.set_cons_zero, List.set_cons_succ]
  refine takeL Try.underlying31 (i := 7) rfl (by kernel_rfl) (by kernel_rfl) (by kernel_rfl) (some 16) rfl (.tmp 7) rfl (by rfl) (w.heap.size + 1 + 1 + 1) rfl (wdc v) (szW hv'.out) (fun w h => h.2.2.2.1) (fun _ _ _ h => h) (by assumption) ?_
  simp only [Act.put, List.setIfInBounds_toArray, List.set_cons_zero, List.set_cons_succ]
  refine wpAnyH_ready (rs := [2]) (by kernel_rfl) (by simp) ?_
  refine AllReadyH.cons rfl (fun K hK => ?_) (AllReadyH.nil)
  go_simp
  refine (q1.out _).mono ?_
  rintro e w9 ⟨rfl, b9⟩
  refine hK.out _ _ (kG4 b9 hHeld) (fun hHeld => ?_)
  clear hK K
  try simp only [Act.put, List.setIfInBounds_toArray, List.set_cons_zero, List.set_cons_succ]
  refine wpAnyH_ready (rs := [4]) (by kernel_rfl) (by simp) ?_
  refine AllReadyH.cons rfl (fun K hK => ?_) (AllReadyH.nil)
  go_simp
  refine (q2.out _).mono ?_
  rintro e w9 ⟨rfl, b9⟩
  refine hK.out _ _ (kG4 b9 hHeld) (fun hHeld => ?_)
  clear hK K
  try simp only [Act.put, List.setIfInBounds_toArray, List.set_cons_zero, List.set_cons_succ]
  refine wpAnyH_ready (rs := [8]) (by kernel_rfl) (by simp) ?_
  refine AllReadyH.cons rfl (fun K hK => ?_) (AllReadyH.nil)
  go_simp
  refine (q3.out _).mono ?_
  rintro e w9 ⟨rfl, b9⟩
  refine hK.out _ _ (kG4 b9 hHeld) (fun hHeld => ?_)
  clear hK K
  try simp only [Act.put, List.setIfInBounds_toArray, List.set_cons_zero, List.set_cons_succ]
  refine wpAnyH_ready (rs := [9]) (by kernel_rfl) (by simp) ?_
  refine AllReadyH.cons rfl (fun K hK => ?_) (AllReadyH.nil)
  go_simp
  refine (q4.out _).mono ?_
  rintro e w9 ⟨rfl, b9⟩
  refine hK.out _ _ (kG4 b9 hHeld) (fun hHeld => ?_)
  clear hK K
  try simp only [Act.put, List.setIfInBounds_toArray, List.set_cons_zero, List.set_cons_succ]
  refine takeR (i := 10) (v := ?_) rfl (by kernel_rfl) (by kernel_rfl) (by kernel_rfl) (some 19) rfl (Or.inl ⟨by rfl, ?_⟩) (fun _ _ _ h => h) (by assumption) ?_
  rotate_left
  · intro w hSw; (try dsimp only at hSw); go_simp; (try with_reducible rfl)
  simp only [Act.put, List.setIfInBounds_toArray, List.set_cons_zero, List.set_cons_succ]
  refine takeR (i := 11) (v := ?_) rfl (by kernel_rfl) (by kernel_rfl) (by kernel_rfl) (some 20) rfl (Or.inl ⟨by rfl, ?_⟩) (fun _ _ _ h => h) (by assumption) ?_
  rotate_left
  · intro w hSw; (try dsimp only at hSw); go_simp; (try with_reducible rfl)
  simp only [Act.put, List.setIfInBounds_toArray, List.set_cons_zero, List.set_cons_succ]
  refine takeL Try.underlying28 (i := 12) rfl (by kernel_rfl) (by kernel_rfl) (by kernel_rfl) (some 21) rfl (.tmp 4) rfl (by rfl) w.heap.size rfl (tdc l) (szR hl.out) (fun w h => h.1) (fun _ _ _ h => h) (by assumption) ?_
  simp only [Act.put, List.setIfInBounds_toArray, List.set_cons_zero, List.set_cons_succ]
  refine takeL Try.underlying28 (i := 13) rfl (by kernel_rfl) (by kernel_rfl) (by kernel_rfl) (some 22) rfl (.tmp 5) rfl (by rfl) (w.heap.size + 1) rfl (tdc m) (szR hm.out) (fun w h => h.2.1) (fun _ _ _ h => h) (by assumption) ?_
  simp only [Act.put, List.setIfInBounds_toArray, List.set_cons_zero, List.set_cons_succ]
  refine takeL Try.underlying28 (i := 15) rfl (by kernel_rfl) (by kernel_rfl) (by kernel_rfl) (some 24) rfl (.tmp 6) rfl (by rfl) (w.heap.size + 1 + 1) rfl (tdc c) (szR hc.out) (fun w h => h.2.2.1) (fun _ _ _ h => h) (by assumption) ?_
  simp only [Act.put, List.setIfInBounds_toArray, List.set_cons_zero, List.set_cons_succ]
  refine takeL Try.underlying28 (i := 17) rfl (by kernel_rfl) (by kernel_rfl) (by kernel_rfl) (some 26) rfl (.tmp 4) rfl (by rfl) w.heap.size rfl (tdc l) (szR hl.out) (fun w h => h.1) (fun _ _ _ h => h) (by assumption) ?_
  simp only [Act.put, List.setIfInBounds_toArray, List.set_cons_zero, List.set_cons_succ]
  refine takeL Try.underlying28 (i := 18) rfl (by kernel_rfl) (by kernel_rfl) (by kernel_rfl) (some 27) rfl (.tmp 5) rfl (by rfl) (w.heap.size + 1) rfl (tdc m) (szR hm.out) (fun w h => h.2.1) (fun _ _ _ h => h) (by assumption) ?_
  simp only [Act.put, List.setIfInBounds_toArray, List.set_cons_zero, List.set_cons_succ]
  refine takeL Try.underlying28 (i := 19) rfl (by kernel_rfl) (by kernel_rfl) (by kernel_rfl) (some 28) rfl (.tmp 6) rfl (by rfl) (w.heap.size + 1 + 1) rfl (tdc c) (szR hc.out) (fun w h => h.2.2.1) (fun _ _ _ h => h) (by assumption) ?_
  simp only [Act.put, List.setIfInBounds_toArray, List.set_cons_zero, List.set_cons_succ]
  refine wpAnyH_ready (rs := [14]) (by kernel_rfl) (by simp) ?_
  refine AllReadyH.cons rfl (fun K hK => ?_) (AllReadyH.nil)
  go_simp
  refine (q1.out _).mono ?_
  rintro e w9 ⟨rfl, b9⟩
  refine hK.out _ _ (kG4 b9 hHeld) (fun hHeld => ?_)
  clear hK K
  try simp only [Act.put, List.setIfInBounds_toArray, List.set_cons_zero, List.set_cons_succ]
  refine wpAnyH_ready (rs := [16]) (by kernel_rfl) (by simp) ?_
  refine AllReadyH.cons rfl (fun K hK => ?_) (AllReadyH.nil)
  go_simp
  refine (q5.out _).mono ?_
  rintro e w9 ⟨rfl, b9⟩
  refine hK.out _ _ (kG4 b9 hHeld) (fun hHeld => ?_)
  clear hK K
  try simp only [Act.put, List.setIfInBounds_toArray, List.set_cons_zero, List.set_cons_succ]
  refine wpAnyH_ready (rs := [20]) (by kernel_rfl) (by simp) ?_
  refine AllReadyH.cons rfl (fun K hK => ?_) (AllReadyH.nil)
  go_simp
  refine (q6.out _).mono ?_
  rintro e w9 ⟨rfl, b9⟩
  refine hK.out _ _ (kG4 b9 hHeld) (fun hHeld => ?_)
  clear hK K
  try simp only [Act.put, List.setIfInBounds_toArray, List.set_cons_zero, List.set_cons_succ]
  refine wpAnyH_ready (rs := [21]) (by kernel_rfl) (by simp) ?_
  refine AllReadyH.cons rfl (fun K hK => ?_) (AllReadyH.nil)
  go_simp
  refine (q7.out _).mono ?_
  rintro e w9 ⟨rfl, b9⟩
  refine hK.out _ _ (kG4 b9 hHeld) (fun hHeld => ?_)
  clear hK K
  try simp only [Act.put, List.setIfInBounds_toArray, List.set_cons_zero, List.set_cons_succ]
  refine takeR (i := 22) (v := ?_) rfl (by kernel_rfl) (by kernel_rfl) (by kernel_rfl) (some 31) rfl (Or.inl ⟨by rfl, ?_⟩) (fun _ _ _ h => h) (by assumption) ?_
  rotate_left
  · intro w hSw; (try dsimp only at hSw); go_simp; (try with_reducible rfl)
  simp only [Act.put, List.setIfInBounds_toArray, List.set_cons_zero, List.set_cons_succ]
  refine takeR (i := 23) (v := ?_) rfl (by kernel_rfl) (by kernel_rfl) (by kernel_rfl) (some 32) rfl (Or.inl ⟨by rfl, ?_⟩) (fun _ _ _ h => h) (by assumption) ?_
  rotate_left
  · intro w hSw; (try dsimp only at hSw); go_simp; (try with_reducible rfl)
  simp only [Act.put, List.setIfInBounds_toArray, List.set_cons_zero, List.set_cons_succ]
  refine takeR (i := 24) (v := ?_) rfl (by kernel_rfl) (by kernel_rfl) (by kernel_rfl) (some 33) rfl (Or.inl ⟨by rfl, ?_⟩) (fun _ _ _ h => h) (by assumption) ?_
  rotate_left
  · intro w hSw; (try dsimp only at hSw); go_simp; (try with_reducible rfl)
  simp only [Act.put, List.setIfInBounds_toArray, List.set_cons_zero, List.set_cons_succ]
  refine wpAnyH_ready (rs := [25]) (by kernel_rfl) (by simp) ?_
  refine AllReadyH.cons rfl (fun K hK => ?_) (AllReadyH.nil)
  go_simp
  refine (aw.out _).mono ?_
  rintro e w9 ⟨rfl, b9⟩
  refine hK.out _ _ (kG4 b9 hHeld) (fun hHeld => ?_)
  clear hK K
  try simp only [Act.put, List.setIfInBounds_toArray, List.set_cons_zero, List.set_cons_succ]
  refine takeR (i := 26) (v := ?_) rfl (by kernel_rfl) (by kernel_rfl) (by kernel_rfl) (some 35) rfl (Or.inl ⟨by rfl, ?_⟩) (fun _ _ _ h => h) (by assumption) ?_
  rotate_left
  · intro w hSw; (try dsimp only at hSw); go_simp; (try with_reducible rfl)
  simp only [Act.put, List.setIfInBounds_toArray, List.set_cons_zero, List.set_cons_succ]
  refine takeR (i := 27) (v := ?_) rfl (by kernel_rfl) (by kernel_rfl) (by kernel_rfl) (some 8) rfl (Or.inl ⟨by rfl, ?_⟩) (fun _ _ _ h => h) (by assumption) ?_
  rotate_left
  · intro w hSw; (try dsimp only at hSw); go_simp; (try with_reducible rfl)
  simp only [Act.put, List.setIfInBounds_toArray, List.set_cons_zero, List.set_cons_succ]
  refine wpAnyH_done (by kernel_rfl) ?_ _
  have bel := hHeld.2.2.2.2
  clear hHeld
  go_wp2_with fail
  go_ret
  exact ⟨rfl, HB.out.trans (bel.mono HB.out.size)⟩


end Go.Proofs.Ytlincickgleddaa
