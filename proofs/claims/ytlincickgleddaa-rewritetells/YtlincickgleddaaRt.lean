import Derived.Test.YtlincickgleddaaRn
import Derived.Test.YtlincickgleddaaRd
import Derived.Test.YtlincickgleddaaRe
import Derived.Test.YtlincickgleddaaRi
import Derived.Test.YtlincickgleddaaRf
import Derived.Test.YtlincickgleddaaRh
import Derived.Test.YtlincickgleddaaRk
import Derived.Test.YtlincickgleddaaRz
import Derived.Deep.RegionHeld3
import Derived.Deep.RegionWith
import Derived.Deep.MidRow
import Derived.Deep.Cut
namespace Go.Proofs.Ytlincickgleddaa
open Go Go.RowKit
set_option linter.unusedVariables false
set_option linter.unusedSimpArgs false

set_option maxRecDepth 100000 in
set_option maxHeartbeats 16000000 in
theorem rewriteTells_walk (l m c : List Q4) (v : List (Nat × Nat)) (hl' : isC l) (hm' : isC m) (hc' : isC c) (hh' : isH v) (w : World) :
    Calls Try.prog 3 #[cv l, cv m, cv c, hv v] w fun e w' => e = .returned (.bool true) ∧ Below w.heap.size w w' := by
  have hBC : (beforeC l c).length = 24 := (beforeC_isC hl' hc').1
  have q1 : Hid (∀ w, Calls Try.prog 8 #[cv l, cv c] w fun e w' => e = .returned (.tuple #[cv (beforeC l c), .bool (okC l c)]) ∧ Below w.heap.size w w') := hide_ (fun w => rwbefore_any l c hl' hc' w)
  have q2 : Hid (∀ w, Calls Try.prog 9 #[cv l, cv c] w fun e w' => e = .returned (.tuple #[cv (beforeC l c), .bool (okC l c)]) ∧ Below w.heap.size w w') := hide_ (fun w => rrwbefore_any l c hl' hc' w)
  have qA := hide_ (fun w => rwapply_any l v hl' hh' w)
  have rA := hide_ (fun w => rrwapply_any l v hl' hh' w)
  have qT := hide_ (fun w => rwthen_any l m hl' hm' w)
  have rT := hide_ (fun w => rrwthen_any l m hl' hm' w)
  have qF := hide_ (fun w => rwafter_any l c hl' hc' w)
  have rF := hide_ (fun w => rrwafter_any l c hl' hc' w)
  have qC := hide_ (fun w => rwclean_any l hl' w)
  have rC := hide_ (fun w => rrwclean_any l hl' w)
  have qN := hide_ (fun w => rwnone_any w)
  have rN := hide_ (fun w => rrwnone_any w)
  have aw := hide_ (fun w => awake9_any w)
  have e1 := fun w => heq_same (applyC l v) (by simp [applyC]) w
  have e2 := fun w => req_same (thenC l m) (map_len _) w
  have e3 := fun w => ceq_same (thenC c l) (map_len _) w
  have e4 := fun w => req_same (cleanC l) (map_len _) w
  have e5 := fun w => req_same z24q z24q_len w
  have e6 := fun w => ceq_same _ hBC w
  have hB := hide_ hBC
  have hl := hide_ hl'.1
  have hm := hide_ hm'.1
  have hc := hide_ hc'.1
  have hv' := hide_ hh'.1
  clear hl' hm' hc' hh' hBC
  generalize beforeC l c = B at *
  generalize okC l c = ok at *
  generalize applyC l v = AV at *
  generalize thenC l m = T1 at *
  generalize thenC c l = T2 at *
  generalize cleanC l = CL at *
  have A0 := hide_ ((((AB.at0 w  28 (tdc l)).alloc (.cells (tdc m).toArray 28)).alloc (.cells (tdc c).toArray 29)).alloc (.cells (wdc v).toArray 31))
  have A1 := hide_ (((AB.at1 w (.cells (tdc l).toArray 28) 28 (tdc m)).alloc (.cells (tdc c).toArray 29)).alloc (.cells (wdc v).toArray 31))
  have A2 := hide_ ((AB.at2 w (.cells (tdc l).toArray 28) (.cells (tdc m).toArray 28) 29 (tdc c)).alloc (.cells (wdc v).toArray 31))
  have A3 := hide_ (AB.at3 w (.cells (tdc l).toArray 28) (.cells (tdc m).toArray 28) (.cells (tdc c).toArray 29) 31 (wdc v))
  have HB0 := hide_ (below4 w (.cells (tdc l).toArray 28) (.cells (tdc m).toArray 28) (.cells (tdc c).toArray 29) (.cells (wdc v).toArray 31))
  unfold cv at *
  unfold hv at *
  obtain ⟨hz0, -⟩ := zero_of_info zC'
  cases ok
  all_goals
    go_enter Try.func3, Try.ntmps3
    go_upto_region 2 with (first | (refine wpList_loadA Try.underlying28 rfl (.tmp 4) rfl w.heap.size (by simp [Act.eval, Act.put]) (tdc l) (szR hl.out) A0.out ?_) | (refine wpList_loadA Try.underlying29 rfl (.tmp 6) rfl (w.heap.size + 1 + 1) (by simp [Act.eval, Act.put]) (tdc c) (szC hc.out) A2.out ?_) | (go_at_call 8; refine (q1.out _).mono ?_; rintro e w1 ⟨rfl, b1⟩; have Z1 := hide_ (AB.at0 w1 29 (tdc z24q))) | (refine wpList_storeA rfl (.tmp 9) (.tmp 18) rfl w1.heap.size (by simp [Act.eval, Act.put]) (tdc z24q) (tdc B) (by rw [tdc_length, tdc_length, hB.out, z24q_len]) (szC hB.out) (tdc_one _) (by simp [Act.eval, Act.put]) Z1.out ?_))
    have k1 := b1.trans (((below1 w1 (.cells (tdc z24q).toArray 29)).trans (below_row _ w1.heap.size _ (tdc B).toArray (Nat.le_refl _))).mono b1.size)
    have E0 := hide_ (A0.out.later k1)
    have E1 := hide_ (A1.out.later k1)
    have E2 := hide_ (A2.out.later k1)
    have E3 := hide_ (A3.out.later k1)
    have E4 := hide_ (Z1.out.row (cs' := tdc B))
    have HB1 := hide_ (HB0.out.trans (k1.mono HB0.out.size))
    clear A0 A1 A2 A3 Z1 b1 k1 HB0
    try simp only [Act.put]
    generalize ((w1.alloc (.cells (tdc z24q).toArray 29)).setRow w1.heap.size (tdc B).toArray) = U at *
    generalize w1.heap.size = g1 at *
    go_upto_region 3 with (first | (refine wpList_loadA Try.underlying28 rfl (.tmp 4) rfl w.heap.size (by simp [Act.eval, Act.put]) (tdc l) (szR hl.out) E0.out ?_) | (refine wpList_loadA Try.underlying29 rfl (.tmp 6) rfl (w.heap.size + 1 + 1) (by simp [Act.eval, Act.put]) (tdc c) (szC hc.out) E2.out ?_) | (go_at_call 9; refine (q2.out _).mono ?_; rintro e w2 ⟨rfl, b2⟩; have Z2 := hide_ (AB.at0 w2 29 (tdc z24q))) | (refine wpList_storeA rfl (.tmp 11) (.tmp 24) rfl w2.heap.size (by simp [Act.eval, Act.put]) (tdc z24q) (tdc B) (by rw [tdc_length, tdc_length, hB.out, z24q_len]) (szC hB.out) (tdc_one _) (by simp [Act.eval, Act.put]) Z2.out ?_))
    have k2 := b2.trans (((below1 w2 (.cells (tdc z24q).toArray 29)).trans (below_row _ w2.heap.size _ (tdc B).toArray (Nat.le_refl _))).mono b2.size)
    have R0 := (E0.out.later k2).range
    have R1 := (E1.out.later k2).range
    have R2 := (E2.out.later k2).range
    have R3 := (E3.out.later k2).range
    have R4 := (E4.out.later k2).range
    have R5 := (Z2.out.row (cs' := tdc B)).range
    have HB := hide_ (HB1.out.trans (k2.mono HB1.out.size))
    clear E0 E1 E2 E3 E4 Z2 b2 k2 HB1
    try simp only [Act.put]
    generalize ((w2.alloc (.cells (tdc z24q).toArray 29)).setRow w2.heap.size (tdc B).toArray) = W at *
    generalize w2.heap.size = g2 at *
    refine wp_region_held_drew (S := (fun w' => w'.rangeAt w.heap.size 0 (tdc l) ∧ w'.rangeAt (w.heap.size + 1) 0 (tdc m) ∧ w'.rangeAt (w.heap.size + 1 + 1) 0 (tdc c) ∧ w'.rangeAt (w.heap.size + 1 + 1 + 1) 0 (wdc v) ∧ w'.rangeAt g1 0 (tdc B) ∧ w'.rangeAt g2 0 (tdc B) ∧ Below W.heap.size W w')) (by kernel_rfl) (⟨R0, R1, R2, R3, R4, R5, (Below.refl _ _).drew⟩) (fun hHeld => ?_)
    refine takeL Try.underlying29 (i := 0) rfl (by kernel_rfl) (by kernel_rfl) (by kernel_rfl) (some 26) rfl (.tmp 9) rfl (by rfl) g1 rfl (tdc B) (szC hB.out) (fun w h => h.2.2.2.2.1) (fun _ _ _ h => h) (by assumption) ?_
    simp only [Act.put, List.setIfInBounds_toArray, List.set_cons_zero, List.set_cons_succ]
    refine takeL Try.underlying29 (i := 1) rfl (by kernel_rfl) (by kernel_rfl) (by kernel_rfl) (some 27) rfl (.tmp 11) rfl (by rfl) g2 rfl (tdc B) (szC hB.out) (fun w h => h.2.2.2.2.2.1) (fun _ _ _ h => h) (by assumption) ?_
    simp only [Act.put, List.setIfInBounds_toArray, List.set_cons_zero, List.set_cons_succ]
    refine takeR (i := 2) (v := ?_) rfl (by kernel_rfl) (by kernel_rfl) (by kernel_rfl) (some 28) rfl (Or.inl ⟨by rfl, ?_⟩) (fun _ _ _ h => h) (by assumption) ?_
    rotate_left
    · intro w hSw; (try dsimp only at hSw); go_simp; (try with_reducible rfl)
    simp only [Act.put, List.setIfInBounds_toArray, List.set_cons_zero, List.set_cons_succ]
    refine takeR (i := 3) (v := ?_) rfl (by kernel_rfl) (by kernel_rfl) (by kernel_rfl) (some 29) rfl (Or.inl ⟨by rfl, ?_⟩) (fun _ _ _ h => h) (by assumption) ?_
    rotate_left
    · intro w hSw; (try dsimp only at hSw); go_simp; (try with_reducible rfl)
    simp only [Act.put, List.setIfInBounds_toArray, List.set_cons_zero, List.set_cons_succ]
    refine takeR (i := 4) (v := ?_) rfl (by kernel_rfl) (by kernel_rfl) (by kernel_rfl) (some 30) rfl (Or.inl ⟨by rfl, ?_⟩) (fun _ _ _ h => h) (by assumption) ?_
    rotate_left
    · intro w hSw; (try dsimp only at hSw); go_simp; (try with_reducible rfl)
    simp only [Act.put, List.setIfInBounds_toArray, List.set_cons_zero, List.set_cons_succ]
    refine takeR (i := 5) (v := ?_) rfl (by kernel_rfl) (by kernel_rfl) (by kernel_rfl) (some 31) rfl (Or.inl ⟨by rfl, ?_⟩) (fun _ _ _ h => h) (by assumption) ?_
    rotate_left
    · intro w hSw; (try dsimp only at hSw); go_simp; (try with_reducible rfl)
    simp only [Act.put, List.setIfInBounds_toArray, List.set_cons_zero, List.set_cons_succ]
    refine takeR (i := 6) (v := ?_) rfl (by kernel_rfl) (by kernel_rfl) (by kernel_rfl) (some 32) rfl (Or.inl ⟨by rfl, ?_⟩) (fun _ _ _ h => h) (by assumption) ?_
    rotate_left
    · intro w hSw; (try dsimp only at hSw); go_simp; (try with_reducible rfl)
    simp only [Act.put, List.setIfInBounds_toArray, List.set_cons_zero, List.set_cons_succ]
    refine takeR (i := 7) (v := ?_) rfl (by kernel_rfl) (by kernel_rfl) (by kernel_rfl) (some 33) rfl (Or.inl ⟨by rfl, ?_⟩) (fun _ _ _ h => h) (by assumption) ?_
    rotate_left
    · intro w hSw; (try dsimp only at hSw); go_simp; (try with_reducible rfl)
    simp only [Act.put, List.setIfInBounds_toArray, List.set_cons_zero, List.set_cons_succ]
    refine takeR (i := 8) (v := ?_) rfl (by kernel_rfl) (by kernel_rfl) (by kernel_rfl) (some 34) rfl (Or.inl ⟨by rfl, ?_⟩) (fun _ _ _ h => h) (by assumption) ?_
    rotate_left
    · intro w hSw; (try dsimp only at hSw); go_simp; (try with_reducible rfl)
    simp only [Act.put, List.setIfInBounds_toArray, List.set_cons_zero, List.set_cons_succ]
    refine takeL Try.underlying28 (i := 9) rfl (by kernel_rfl) (by kernel_rfl) (by kernel_rfl) (some 35) rfl (.tmp 4) rfl (by rfl) w.heap.size rfl (tdc l) (szR hl.out) (fun w h => h.1) (fun _ _ _ h => h) (by assumption) ?_
    simp only [Act.put, List.setIfInBounds_toArray, List.set_cons_zero, List.set_cons_succ]
    refine takeL Try.underlying31 (i := 10) rfl (by kernel_rfl) (by kernel_rfl) (by kernel_rfl) (some 36) rfl (.tmp 7) rfl (by rfl) (w.heap.size + 1 + 1 + 1) rfl (wdc v) (szW hv'.out) (fun w h => h.2.2.2.1) (fun _ _ _ h => h) (by assumption) ?_
    simp only [Act.put, List.setIfInBounds_toArray, List.set_cons_zero, List.set_cons_succ]
    refine takeL Try.underlying28 (i := 12) rfl (by kernel_rfl) (by kernel_rfl) (by kernel_rfl) (some 38) rfl (.tmp 4) rfl (by rfl) w.heap.size rfl (tdc l) (szR hl.out) (fun w h => h.1) (fun _ _ _ h => h) (by assumption) ?_
    simp only [Act.put, List.setIfInBounds_toArray, List.set_cons_zero, List.set_cons_succ]
    refine takeL Try.underlying31 (i := 13) rfl (by kernel_rfl) (by kernel_rfl) (by kernel_rfl) (some 39) rfl (.tmp 7) rfl (by rfl) (w.heap.size + 1 + 1 + 1) rfl (wdc v) (szW hv'.out) (fun w h => h.2.2.2.1) (fun _ _ _ h => h) (by assumption) ?_
    simp only [Act.put, List.setIfInBounds_toArray, List.set_cons_zero, List.set_cons_succ]
    refine wpAnyH_ready (rs := [11]) (by kernel_rfl) (by simp) ?_
    refine AllReadyH.cons rfl (fun K hK => ?_) (AllReadyH.nil)
    go_simp
    refine (qA.out _).mono ?_
    rintro e w9 ⟨rfl, b9⟩
    refine hK.out _ _ (kG6 b9 hHeld) (fun hHeld => ?_)
    clear hK K
    try simp only [Act.put, List.setIfInBounds_toArray, List.set_cons_zero, List.set_cons_succ]
    refine wpAnyH_ready (rs := [14]) (by kernel_rfl) (by simp) ?_
    refine AllReadyH.cons rfl (fun K hK => ?_) (AllReadyH.nil)
    go_simp
    refine (rA.out _).mono ?_
    rintro e w9 ⟨rfl, b9⟩
    refine hK.out _ _ (kG6 b9 hHeld) (fun hHeld => ?_)
    clear hK K
    try simp only [Act.put, List.setIfInBounds_toArray, List.set_cons_zero, List.set_cons_succ]
    refine takeR (i := 15) (v := ?_) rfl (by kernel_rfl) (by kernel_rfl) (by kernel_rfl) (some 41) rfl (Or.inl ⟨by rfl, ?_⟩) (fun _ _ _ h => h) (by assumption) ?_
    rotate_left
    · intro w hSw; (try dsimp only at hSw); go_simp; (try with_reducible rfl)
    simp only [Act.put, List.setIfInBounds_toArray, List.set_cons_zero, List.set_cons_succ]
    refine takeR (i := 16) (v := ?_) rfl (by kernel_rfl) (by kernel_rfl) (by kernel_rfl) (some 42) rfl (Or.inl ⟨by rfl, ?_⟩) (fun _ _ _ h => h) (by assumption) ?_
    rotate_left
    · intro w hSw; (try dsimp only at hSw); go_simp; (try with_reducible rfl)
    simp only [Act.put, List.setIfInBounds_toArray, List.set_cons_zero, List.set_cons_succ]
    refine takeR (i := 17) (v := ?_) rfl (by kernel_rfl) (by kernel_rfl) (by kernel_rfl) (some 43) rfl (Or.inl ⟨by rfl, ?_⟩) (fun _ _ _ h => h) (by assumption) ?_
    rotate_left
    · intro w hSw; (try dsimp only at hSw); go_simp; (try with_reducible rfl)
    simp only [Act.put, List.setIfInBounds_toArray, List.set_cons_zero, List.set_cons_succ]
    refine takeL Try.underlying28 (i := 18) rfl (by kernel_rfl) (by kernel_rfl) (by kernel_rfl) (some 44) rfl (.tmp 4) rfl (by rfl) w.heap.size rfl (tdc l) (szR hl.out) (fun w h => h.1) (fun _ _ _ h => h) (by assumption) ?_
    simp only [Act.put, List.setIfInBounds_toArray, List.set_cons_zero, List.set_cons_succ]
    refine takeL Try.underlying28 (i := 19) rfl (by kernel_rfl) (by kernel_rfl) (by kernel_rfl) (some 45) rfl (.tmp 5) rfl (by rfl) (w.heap.size + 1) rfl (tdc m) (szR hm.out) (fun w h => h.2.1) (fun _ _ _ h => h) (by assumption) ?_
    simp only [Act.put, List.setIfInBounds_toArray, List.set_cons_zero, List.set_cons_succ]
    refine takeL Try.underlying28 (i := 21) rfl (by kernel_rfl) (by kernel_rfl) (by kernel_rfl) (some 47) rfl (.tmp 4) rfl (by rfl) w.heap.size rfl (tdc l) (szR hl.out) (fun w h => h.1) (fun _ _ _ h => h) (by assumption) ?_
    simp only [Act.put, List.setIfInBounds_toArray, List.set_cons_zero, List.set_cons_succ]
    refine takeL Try.underlying28 (i := 22) rfl (by kernel_rfl) (by kernel_rfl) (by kernel_rfl) (some 48) rfl (.tmp 5) rfl (by rfl) (w.heap.size + 1) rfl (tdc m) (szR hm.out) (fun w h => h.2.1) (fun _ _ _ h => h) (by assumption) ?_
    simp only [Act.put, List.setIfInBounds_toArray, List.set_cons_zero, List.set_cons_succ]
    refine wpAnyH_ready (rs := [20]) (by kernel_rfl) (by simp) ?_
    refine AllReadyH.cons rfl (fun K hK => ?_) (AllReadyH.nil)
    go_simp
    refine (qT.out _).mono ?_
    rintro e w9 ⟨rfl, b9⟩
    refine hK.out _ _ (kG6 b9 hHeld) (fun hHeld => ?_)
    clear hK K
    try simp only [Act.put, List.setIfInBounds_toArray, List.set_cons_zero, List.set_cons_succ]
    refine wpAnyH_ready (rs := [23]) (by kernel_rfl) (by simp) ?_
    refine AllReadyH.cons rfl (fun K hK => ?_) (AllReadyH.nil)
    go_simp
    refine (rT.out _).mono ?_
    rintro e w9 ⟨rfl, b9⟩
    refine hK.out _ _ (kG6 b9 hHeld) (fun hHeld => ?_)
    clear hK K
    try simp only [Act.put, List.setIfInBounds_toArray, List.set_cons_zero, List.set_cons_succ]
    refine takeR (i := 24) (v := ?_) rfl (by kernel_rfl) (by kernel_rfl) (by kernel_rfl) (some 50) rfl (Or.inl ⟨by rfl, ?_⟩) (fun _ _ _ h => h) (by assumption) ?_
    rotate_left
    · intro w hSw; (try dsimp only at hSw); go_simp; (try with_reducible rfl)
    simp only [Act.put, List.setIfInBounds_toArray, List.set_cons_zero, List.set_cons_succ]
    refine takeR (i := 25) (v := ?_) rfl (by kernel_rfl) (by kernel_rfl) (by kernel_rfl) (some 51) rfl (Or.inl ⟨by rfl, ?_⟩) (fun _ _ _ h => h) (by assumption) ?_
    rotate_left
    · intro w hSw; (try dsimp only at hSw); go_simp; (try with_reducible rfl)
    simp only [Act.put, List.setIfInBounds_toArray, List.set_cons_zero, List.set_cons_succ]
    refine takeR (i := 26) (v := ?_) rfl (by kernel_rfl) (by kernel_rfl) (by kernel_rfl) (some 13) rfl (Or.inl ⟨by rfl, ?_⟩) (fun _ _ _ h => h) (by assumption) ?_
    rotate_left
    · intro w hSw; (try dsimp only at hSw); go_simp; (try with_reducible rfl)
    simp only [Act.put, List.setIfInBounds_toArray, List.set_cons_zero, List.set_cons_succ]
    refine wpAnyH_done (by kernel_rfl) ?_ _
    obtain ⟨S0, S1, S2, S3, S4, S5, bel⟩ := hHeld
    have HC := hide_ (HB.out.trans (bel.mono HB.out.size))
    clear bel R0 R1 R2 R3 R4 R5 HB
    go_wp2_with fail
    try simp only [Act.put]
    generalize w9 = V at *
    refine wp_region_held_drew (S := (fun w' => w'.rangeAt w.heap.size 0 (tdc l) ∧ w'.rangeAt (w.heap.size + 1) 0 (tdc m) ∧ w'.rangeAt (w.heap.size + 1 + 1) 0 (tdc c) ∧ w'.rangeAt (w.heap.size + 1 + 1 + 1) 0 (wdc v) ∧ w'.rangeAt g1 0 (tdc B) ∧ w'.rangeAt g2 0 (tdc B) ∧ Below V.heap.size V w')) (by kernel_rfl) (⟨S0, S1, S2, S3, S4, S5, (Below.refl _ _).drew⟩) (fun hHeld => ?_)
    refine takeR (i := 0) (v := ?_) rfl (by kernel_rfl) (by kernel_rfl) (by kernel_rfl) (some 52) rfl (Or.inl ⟨by rfl, ?_⟩) (fun _ _ _ h => h) (by assumption) ?_
    rotate_left
    · intro w hSw; (try dsimp only at hSw); go_simp; (try with_reducible rfl)
    simp only [Act.put, List.setIfInBounds_toArray, List.set_cons_zero, List.set_cons_succ]
    refine takeR (i := 1) (v := ?_) rfl (by kernel_rfl) (by kernel_rfl) (by kernel_rfl) (some 53) rfl (Or.inl ⟨by rfl, ?_⟩) (fun _ _ _ h => h) (by assumption) ?_
    rotate_left
    · intro w hSw; (try dsimp only at hSw); go_simp; (try with_reducible rfl)
    simp only [Act.put, List.setIfInBounds_toArray, List.set_cons_zero, List.set_cons_succ]
    refine takeL Try.underlying28 (i := 2) rfl (by kernel_rfl) (by kernel_rfl) (by kernel_rfl) (some 54) rfl (.tmp 4) rfl (by rfl) w.heap.size rfl (tdc l) (szR hl.out) (fun w h => h.1) (fun _ _ _ h => h) (by assumption) ?_
    simp only [Act.put, List.setIfInBounds_toArray, List.set_cons_zero, List.set_cons_succ]
    refine takeL Try.underlying29 (i := 3) rfl (by kernel_rfl) (by kernel_rfl) (by kernel_rfl) (some 55) rfl (.tmp 6) rfl (by rfl) (w.heap.size + 1 + 1) rfl (tdc c) (szC hc.out) (fun w h => h.2.2.1) (fun _ _ _ h => h) (by assumption) ?_
    simp only [Act.put, List.setIfInBounds_toArray, List.set_cons_zero, List.set_cons_succ]
    refine takeL Try.underlying28 (i := 5) rfl (by kernel_rfl) (by kernel_rfl) (by kernel_rfl) (some 57) rfl (.tmp 4) rfl (by rfl) w.heap.size rfl (tdc l) (szR hl.out) (fun w h => h.1) (fun _ _ _ h => h) (by assumption) ?_
    simp only [Act.put, List.setIfInBounds_toArray, List.set_cons_zero, List.set_cons_succ]
    refine takeL Try.underlying29 (i := 6) rfl (by kernel_rfl) (by kernel_rfl) (by kernel_rfl) (some 58) rfl (.tmp 6) rfl (by rfl) (w.heap.size + 1 + 1) rfl (tdc c) (szC hc.out) (fun w h => h.2.2.1) (fun _ _ _ h => h) (by assumption) ?_
    simp only [Act.put, List.setIfInBounds_toArray, List.set_cons_zero, List.set_cons_succ]
    refine wpAnyH_ready (rs := [4]) (by kernel_rfl) (by simp) ?_
    refine AllReadyH.cons rfl (fun K hK => ?_) (AllReadyH.nil)
    go_simp
    refine (qF.out _).mono ?_
    rintro e w9 ⟨rfl, b9⟩
    refine hK.out _ _ (kG6 b9 hHeld) (fun hHeld => ?_)
    clear hK K
    try simp only [Act.put, List.setIfInBounds_toArray, List.set_cons_zero, List.set_cons_succ]
    refine wpAnyH_ready (rs := [7]) (by kernel_rfl) (by simp) ?_
    refine AllReadyH.cons rfl (fun K hK => ?_) (AllReadyH.nil)
    go_simp
    refine (rF.out _).mono ?_
    rintro e w9 ⟨rfl, b9⟩
    refine hK.out _ _ (kG6 b9 hHeld) (fun hHeld => ?_)
    clear hK K
    try simp only [Act.put, List.setIfInBounds_toArray, List.set_cons_zero, List.set_cons_succ]
    refine takeR (i := 8) (v := ?_) rfl (by kernel_rfl) (by kernel_rfl) (by kernel_rfl) (some 60) rfl (Or.inl ⟨by rfl, ?_⟩) (fun _ _ _ h => h) (by assumption) ?_
    rotate_left
    · intro w hSw; (try dsimp only at hSw); go_simp; (try with_reducible rfl)
    simp only [Act.put, List.setIfInBounds_toArray, List.set_cons_zero, List.set_cons_succ]
    refine takeR (i := 9) (v := ?_) rfl (by kernel_rfl) (by kernel_rfl) (by kernel_rfl) (some 61) rfl (Or.inl ⟨by rfl, ?_⟩) (fun _ _ _ h => h) (by assumption) ?_
    rotate_left
    · intro w hSw; (try dsimp only at hSw); go_simp; (try with_reducible rfl)
    simp only [Act.put, List.setIfInBounds_toArray, List.set_cons_zero, List.set_cons_succ]
    refine takeR (i := 10) (v := ?_) rfl (by kernel_rfl) (by kernel_rfl) (by kernel_rfl) (some 62) rfl (Or.inl ⟨by rfl, ?_⟩) (fun _ _ _ h => h) (by assumption) ?_
    rotate_left
    · intro w hSw; (try dsimp only at hSw); go_simp; (try with_reducible rfl)
    simp only [Act.put, List.setIfInBounds_toArray, List.set_cons_zero, List.set_cons_succ]
    refine takeL Try.underlying28 (i := 11) rfl (by kernel_rfl) (by kernel_rfl) (by kernel_rfl) (some 63) rfl (.tmp 4) rfl (by rfl) w.heap.size rfl (tdc l) (szR hl.out) (fun w h => h.1) (fun _ _ _ h => h) (by assumption) ?_
    simp only [Act.put, List.setIfInBounds_toArray, List.set_cons_zero, List.set_cons_succ]
    refine takeL Try.underlying28 (i := 13) rfl (by kernel_rfl) (by kernel_rfl) (by kernel_rfl) (some 65) rfl (.tmp 4) rfl (by rfl) w.heap.size rfl (tdc l) (szR hl.out) (fun w h => h.1) (fun _ _ _ h => h) (by assumption) ?_
    simp only [Act.put, List.setIfInBounds_toArray, List.set_cons_zero, List.set_cons_succ]
    refine wpAnyH_ready (rs := [12]) (by kernel_rfl) (by simp) ?_
    refine AllReadyH.cons rfl (fun K hK => ?_) (AllReadyH.nil)
    go_simp
    refine (qC.out _).mono ?_
    rintro e w9 ⟨rfl, b9⟩
    refine hK.out _ _ (kG6 b9 hHeld) (fun hHeld => ?_)
    clear hK K
    try simp only [Act.put, List.setIfInBounds_toArray, List.set_cons_zero, List.set_cons_succ]
    refine wpAnyH_ready (rs := [14]) (by kernel_rfl) (by simp) ?_
    refine AllReadyH.cons rfl (fun K hK => ?_) (AllReadyH.nil)
    go_simp
    refine (rC.out _).mono ?_
    rintro e w9 ⟨rfl, b9⟩
    refine hK.out _ _ (kG6 b9 hHeld) (fun hHeld => ?_)
    clear hK K
    try simp only [Act.put, List.setIfInBounds_toArray, List.set_cons_zero, List.set_cons_succ]
    refine takeR (i := 15) (v := ?_) rfl (by kernel_rfl) (by kernel_rfl) (by kernel_rfl) (some 67) rfl (Or.inl ⟨by rfl, ?_⟩) (fun _ _ _ h => h) (by assumption) ?_
    rotate_left
    · intro w hSw; (try dsimp only at hSw); go_simp; (try with_reducible rfl)
    simp only [Act.put, List.setIfInBounds_toArray, List.set_cons_zero, List.set_cons_succ]
    refine takeR (i := 16) (v := ?_) rfl (by kernel_rfl) (by kernel_rfl) (by kernel_rfl) (some 68) rfl (Or.inl ⟨by rfl, ?_⟩) (fun _ _ _ h => h) (by assumption) ?_
    rotate_left
    · intro w hSw; (try dsimp only at hSw); go_simp; (try with_reducible rfl)
    simp only [Act.put, List.setIfInBounds_toArray, List.set_cons_zero, List.set_cons_succ]
    refine takeR (i := 17) (v := ?_) rfl (by kernel_rfl) (by kernel_rfl) (by kernel_rfl) (some 69) rfl (Or.inl ⟨by rfl, ?_⟩) (fun _ _ _ h => h) (by assumption) ?_
    rotate_left
    · intro w hSw; (try dsimp only at hSw); go_simp; (try with_reducible rfl)
    simp only [Act.put, List.setIfInBounds_toArray, List.set_cons_zero, List.set_cons_succ]
    refine wpAnyH_ready (rs := [18]) (by kernel_rfl) (by simp) ?_
    refine AllReadyH.cons rfl (fun K hK => ?_) (AllReadyH.nil)
    go_simp
    refine (qN.out _).mono ?_
    rintro e w9 ⟨rfl, b9⟩
    refine hK.out _ _ (kG6 b9 hHeld) (fun hHeld => ?_)
    clear hK K
    try simp only [Act.put, List.setIfInBounds_toArray, List.set_cons_zero, List.set_cons_succ]
    refine wpAnyH_ready (rs := [19]) (by kernel_rfl) (by simp) ?_
    refine AllReadyH.cons rfl (fun K hK => ?_) (AllReadyH.nil)
    go_simp
    refine (rN.out _).mono ?_
    rintro e w9 ⟨rfl, b9⟩
    refine hK.out _ _ (kG6 b9 hHeld) (fun hHeld => ?_)
    clear hK K
    try simp only [Act.put, List.setIfInBounds_toArray, List.set_cons_zero, List.set_cons_succ]
    refine takeR (i := 20) (v := ?_) rfl (by kernel_rfl) (by kernel_rfl) (by kernel_rfl) (some 72) rfl (Or.inl ⟨by rfl, ?_⟩) (fun _ _ _ h => h) (by assumption) ?_
    rotate_left
    · intro w hSw; (try dsimp only at hSw); go_simp; (try with_reducible rfl)
    simp only [Act.put, List.setIfInBounds_toArray, List.set_cons_zero, List.set_cons_succ]
    refine takeR (i := 21) (v := ?_) rfl (by kernel_rfl) (by kernel_rfl) (by kernel_rfl) (some 73) rfl (Or.inl ⟨by rfl, ?_⟩) (fun _ _ _ h => h) (by assumption) ?_
    rotate_left
    · intro w hSw; (try dsimp only at hSw); go_simp; (try with_reducible rfl)
    simp only [Act.put, List.setIfInBounds_toArray, List.set_cons_zero, List.set_cons_succ]
    refine takeR (i := 22) (v := ?_) rfl (by kernel_rfl) (by kernel_rfl) (by kernel_rfl) (some 74) rfl (Or.inl ⟨by rfl, ?_⟩) (fun _ _ _ h => h) (by assumption) ?_
    rotate_left
    · intro w hSw; (try dsimp only at hSw); go_simp; (try with_reducible rfl)
    simp only [Act.put, List.setIfInBounds_toArray, List.set_cons_zero, List.set_cons_succ]
    refine wpAnyH_ready (rs := [23]) (by kernel_rfl) (by simp) ?_
    refine AllReadyH.cons rfl (fun K hK => ?_) (AllReadyH.nil)
    go_simp
    refine (aw.out _).mono ?_
    rintro e w9 ⟨rfl, b9⟩
    refine hK.out _ _ (kG6 b9 hHeld) (fun hHeld => ?_)
    clear hK K
    try simp only [Act.put, List.setIfInBounds_toArray, List.set_cons_zero, List.set_cons_succ]
    refine takeR (i := 24) (v := ?_) rfl (by kernel_rfl) (by kernel_rfl) (by kernel_rfl) (some 76) rfl (Or.inl ⟨by rfl, ?_⟩) (fun _ _ _ h => h) (by assumption) ?_
    rotate_left
    · intro w hSw; (try dsimp only at hSw); go_simp; (try with_reducible rfl)
    simp only [Act.put, List.setIfInBounds_toArray, List.set_cons_zero, List.set_cons_succ]
    refine takeR (i := 25) (v := ?_) rfl (by kernel_rfl) (by kernel_rfl) (by kernel_rfl) (some 8) rfl (Or.inl ⟨by rfl, ?_⟩) (fun _ _ _ h => h) (by assumption) ?_
    rotate_left
    · intro w hSw; (try dsimp only at hSw); go_simp; (try with_reducible rfl)
    simp only [Act.put, List.setIfInBounds_toArray, List.set_cons_zero, List.set_cons_succ]
    refine wpAnyH_done (by kernel_rfl) ?_ _
    have bel := hHeld.2.2.2.2.2.2
    clear hHeld
    go_wp2_with fail
    go_ret
    exact ⟨rfl, HC.out.trans (bel.mono HC.out.size)⟩


end Go.Proofs.Ytlincickgleddaa
