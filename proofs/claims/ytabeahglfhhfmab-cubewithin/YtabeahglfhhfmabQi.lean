import Derived.Test.YtabeahglfhhfmabQh
import Derived.Test.YtabeahglfhhfmabHg
import Derived.Test.YtabeahglfhhfmabGa
import Derived.Test.YtabeahglfhhfmabHf
namespace Go.Proofs.Ytabeahglfhhfmab
open Go Go.RowKit
set_option linter.unusedVariables false
set_option linter.unusedSimpArgs false

theorem keepQ4 {w0 wa wb : World} {g1 g2 g3 g4 : Nat} {c1 c2 c3 c4 : List Value} (k : Below wa.heap.size wa wb) (h : wa.rangeAt g1 0 c1 ∧ wa.rangeAt g2 0 c2 ∧ wa.rangeAt g3 0 c3 ∧ wa.rangeAt g4 0 c4 ∧ Below w0.heap.size w0 wa) : wb.rangeAt g1 0 c1 ∧ wb.rangeAt g2 0 c2 ∧ wb.rangeAt g3 0 c3 ∧ wb.rangeAt g4 0 c4 ∧ Below w0.heap.size w0 wb :=
  ⟨range_later h.1 k, range_later h.2.1 k, range_later h.2.2.1 k, range_later h.2.2.2.1 k, h.2.2.2.2.trans (k.mono h.2.2.2.2.size)⟩

set_option maxRecDepth 100000 in
set_option maxHeartbeats 4000000 in
theorem cubeWithin_out (l m : List Q4) (v : List (Nat × Nat)) (hl : isC l) (hm : isC m) (hv' : isH v) (w : World) (hz : inC l m = false) :
    Calls Try.prog 4 #[cv l, cv m, hv v] w fun e w' => e = .returned (.bool true) ∧ Below w.heap.size w w' := by
  have q1 := hide_ (fun w => cmeet_any l m hl hm w)
  have q2 := fun w => cwithin_any l m hl hm w
  rw [hz] at q2
  have q2 := hide_ q2
  have hlM := hide_ (meetC_isC l m hl hm).1
  have hll := hide_ hl.1
  have hlm := hide_ hm.1
  have hlv := hide_ hv'.1
  generalize meetC l m = M at *
  generalize okC l m = ok at *
  clear hl hm hv' hz
  unfold cv at *
  unfold hv at *
  have A0 := hide_ (((AB.at0 w 28 (tdc l)).alloc (.cells (tdc m).toArray 28)).alloc (.cells (wdc v).toArray 30))
  have C0 := hide_ ((AB.at1 w (.cells (tdc l).toArray 28) 28 (tdc m)).alloc (.cells (wdc v).toArray 30))
  have V0 := hide_ (AB.at2 w (.cells (tdc l).toArray 28) (.cells (tdc m).toArray 28) 30 (wdc v))
  have HB := hide_ (below3 w (.cells (tdc l).toArray 28) (.cells (tdc m).toArray 28) (.cells (wdc v).toArray 30))
  obtain ⟨hz0, -⟩ := zero_of_info zC'
  go_enter Try.func4, Try.ntmps4
  go_wp2_with (first | (refine wpList_loadA Try.underlying28 rfl (.tmp 3) rfl w.heap.size (by simp [Act.eval, Act.put]) (tdc l) (szC hll.out) A0.out ?_) | (refine wpList_loadA Try.underlying28 rfl (.tmp 4) rfl (w.heap.size + 1) (by simp [Act.eval, Act.put]) (tdc m) (szC hlm.out) C0.out ?_))
  refine (q1.out _).mono ?_
  rintro e w1 ⟨rfl, b1⟩
  have hne : w.heap.size + 1 + 1 < w1.heap.size := Nat.lt_of_lt_of_le V0.out.lt b1.size
  have HM0 : Hid (AB (w1.alloc (.cells (tdc z24q).toArray 28)) w1.heap.size 28 (tdc z24q)) := hide_ (by rw [zcC]; exact AB.at0 w1 28 (tdc z24q))
  have A1 := hide_ (((A0.out.later b1).alloc (.cells (tdc z24q).toArray 28)).row_far (f := w1.heap.size) (tdc M).toArray (by omega))
  have C1 := hide_ (((C0.out.later b1).alloc (.cells (tdc z24q).toArray 28)).row_far (f := w1.heap.size) (tdc M).toArray (by omega))
  have V1 := hide_ (((V0.out.later b1).alloc (.cells (tdc z24q).toArray 28)).row_far (f := w1.heap.size) (tdc M).toArray (by omega))
  have M1 := hide_ (HM0.out.row (cs' := tdc M))
  have B0 := HB.out.trans (b1.mono HB.out.size)
  have B1 := hide_ ((B0.alloc B0.size (.cells (tdc z24q).toArray 28)).trans (below_row _ w1.heap.size _ (tdc M).toArray (by omega)))
  clear A0 C0 V0 HB B0 b1
  go_wp2_with (first | (refine wpList_storeA rfl (.tmp 7) (.tmp 13) rfl w1.heap.size (by simp [Act.eval, Act.put]) (tdc z24q) (tdc M) (by rw [tdc_length, tdc_length, hlM.out, z24q_len]) (szC hlM.out) (tdc_one _) (by simp [Act.eval, Act.put]) HM0.out ?_; generalize ((w1.alloc (.cells (tdc z24q).toArray 28)).setRow w1.heap.size (tdc M).toArray) = W at *; generalize w1.heap.size = n at *; clear HM0) | (refine wpList_loadA Try.underlying28 rfl (.tmp 3) rfl w.heap.size (by simp [Act.eval, Act.put]) (tdc l) (szC hll.out) A1.out ?_) | (refine wpList_loadA Try.underlying28 rfl (.tmp 4) rfl (w.heap.size + 1) (by simp [Act.eval, Act.put]) (tdc m) (szC hlm.out) C1.out ?_) | (go_at_call 14; refine (q2.out _).mono ?_; rintro e w2 ⟨rfl, b2⟩) | (go_at_call 12; refine (awake6_any _).mono ?_; rintro e w3 ⟨rfl, b3⟩))
  go_ret
  exact ⟨rfl, B1.out.trans ((b2.trans (b3.mono b2.size)).mono B1.out.size)⟩

set_option maxRecDepth 100000 in
set_option maxHeartbeats 4000000 in
theorem cubeWithin_in0 (l m : List Q4) (v : List (Nat × Nat)) (hl : isC l) (hm : isC m) (hv' : isH v) (w : World) (hz : inC l m = true) (hA : hasC l v = false) :
    Calls Try.prog 4 #[cv l, cv m, hv v] w fun e w' => e = .returned (.bool true) ∧ Below w.heap.size w w' := by
  obtain ⟨f1, f2, f3, f4⟩ := withinC l m v hl hm hz
  have q1 := fun w => cmeet_any l m hl hm w
  rw [f1, f2] at q1
  have q1 := hide_ q1
  have q2 := fun w => cwithin_any l m hl hm w
  rw [hz] at q2
  have q2 := hide_ q2
  have q3 := hide_ (fun w => cclean_any l hl w)
  have q4 := fun w => chas_any l v hl hv' w
  rw [hA] at q4
  have q4 := hide_ q4
  have q6 := hide_ (fun w => csize_any m hm w)
  have q7 := hide_ (fun w => csize_any l hl w)
  have hn : ((sizeK m 24 : Nat) : Int) ≤ ((sizeK l 24 : Nat) : Int) := by have := f4 24 (Nat.le_refl _); omega
  have hlM := hide_ (show (cleanC l).length = 24 by simp [cleanC])
  have hll := hide_ hl.1
  have hlm := hide_ hm.1
  have hlv := hide_ hv'.1
  have heq := fun w => run_ceqIn (cleanC l) (cleanC l) hlM.out hlM.out w
  rw [decide_eq_true rfl] at heq
  generalize cleanC l = M at *
  generalize sizeK m 24 = n2 at *
  generalize sizeK l 24 = n1 at *
  clear hl hm hv' hz hA f1 f2 f3 f4
  unfold cv at *
  unfold hv at *
  have A0 := hide_ (((AB.at0 w 28 (tdc l)).alloc (.cells (tdc m).toArray 28)).alloc (.cells (wdc v).toArray 30))
  have C0 := hide_ ((AB.at1 w (.cells (tdc l).toArray 28) 28 (tdc m)).alloc (.cells (wdc v).toArray 30))
  have V0 := hide_ (AB.at2 w (.cells (tdc l).toArray 28) (.cells (tdc m).toArray 28) 30 (wdc v))
  have HB := hide_ (below3 w (.cells (tdc l).toArray 28) (.cells (tdc m).toArray 28) (.cells (wdc v).toArray 30))
  obtain ⟨hz0, -⟩ := zero_of_info zC'
  go_enter Try.func4, Try.ntmps4
  go_wp2_with (first | (refine wpList_loadA Try.underlying28 rfl (.tmp 3) rfl w.heap.size (by simp [Act.eval, Act.put]) (tdc l) (szC hll.out) A0.out ?_) | (refine wpList_loadA Try.underlying28 rfl (.tmp 4) rfl (w.heap.size + 1) (by simp [Act.eval, Act.put]) (tdc m) (szC hlm.out) C0.out ?_))
  refine (q1.out _).mono ?_
  rintro e w1 ⟨rfl, b1⟩
  have hne : w.heap.size + 1 + 1 < w1.heap.size := Nat.lt_of_lt_of_le V0.out.lt b1.size
  have HM0 : Hid (AB (w1.alloc (.cells (tdc z24q).toArray 28)) w1.heap.size 28 (tdc z24q)) := hide_ (by rw [zcC]; exact AB.at0 w1 28 (tdc z24q))
  have A1 := hide_ (((A0.out.later b1).alloc (.cells (tdc z24q).toArray 28)).row_far (f := w1.heap.size) (tdc M).toArray (by omega))
  have C1 := hide_ (((C0.out.later b1).alloc (.cells (tdc z24q).toArray 28)).row_far (f := w1.heap.size) (tdc M).toArray (by omega))
  have V1 := hide_ (((V0.out.later b1).alloc (.cells (tdc z24q).toArray 28)).row_far (f := w1.heap.size) (tdc M).toArray (by omega))
  have M1 := hide_ (HM0.out.row (cs' := tdc M))
  have B0 := HB.out.trans (b1.mono HB.out.size)
  have B1 := hide_ ((B0.alloc B0.size (.cells (tdc z24q).toArray 28)).trans (below_row _ w1.heap.size _ (tdc M).toArray (by omega)))
  clear A0 C0 V0 HB B0 b1
  go_wp2_with (first | (refine wpList_storeA rfl (.tmp 7) (.tmp 13) rfl w1.heap.size (by simp [Act.eval, Act.put]) (tdc z24q) (tdc M) (by rw [tdc_length, tdc_length, hlM.out, z24q_len]) (szC hlM.out) (tdc_one _) (by simp [Act.eval, Act.put]) HM0.out ?_; generalize ((w1.alloc (.cells (tdc z24q).toArray 28)).setRow w1.heap.size (tdc M).toArray) = W at *; generalize w1.heap.size = n at *; clear HM0) | (refine wpList_loadA Try.underlying28 rfl (.tmp 3) rfl w.heap.size (by simp [Act.eval, Act.put]) (tdc l) (szC hll.out) A1.out ?_) | (refine wpList_loadA Try.underlying28 rfl (.tmp 4) rfl (w.heap.size + 1) (by simp [Act.eval, Act.put]) (tdc m) (szC hlm.out) C1.out ?_) | (go_at_call 14; refine (q2.out _).mono ?_; rintro e w2 ⟨rfl, b2⟩))
  have BV := hide_ (B1.out.trans (b2.mono B1.out.size))
  have R1 := (A1.out.later b2).range
  have R2 := (C1.out.later b2).range
  have R3 := (V1.out.later b2).range
  have R4 := (M1.out.later b2).range
  clear A1 C1 V1 M1 B1 b2
  try simp only [Act.put]
  generalize w2 = V at *
  refine wp_region_held_drew (S := fun w' => w'.rangeAt w.heap.size 0 (tdc l) ∧ w'.rangeAt (w.heap.size + 1) 0 (tdc m) ∧ w'.rangeAt (w.heap.size + 1 + 1) 0 (wdc v) ∧ w'.rangeAt n 0 (tdc M) ∧ Below V.heap.size V w') (by kernel_rfl) (keepQ4 (Below.refl _ _).drew ⟨R1, R2, R3, R4, Below.refl _ _⟩) (fun hHeld => ?_)
  refine takeR (i := 0) (v := ?_) rfl (by kernel_rfl) (by kernel_rfl) (by kernel_rfl) (some 20) rfl (Or.inl ⟨by rfl, ?_⟩) (fun _ _ _ h => h) (by assumption) ?_
  rotate_left
  · intro w hSw; (try dsimp only at hSw); go_simp; (try with_reducible rfl)
  simp only [Act.put, List.setIfInBounds_toArray, List.set_cons_zero, List.set_cons_succ]
  refine takeR (i := 1) (v := ?_) rfl (by kernel_rfl) (by kernel_rfl) (by kernel_rfl) (some 21) rfl (Or.inl ⟨by rfl, ?_⟩) (fun _ _ _ h => h) (by assumption) ?_
  rotate_left
  · intro w hSw; (try dsimp only at hSw); go_simp; (try with_reducible rfl)
  simp only [Act.put, List.setIfInBounds_toArray, List.set_cons_zero, List.set_cons_succ]
  refine takeL Try.underlying28 (i := 2) rfl (by kernel_rfl) (by kernel_rfl) (by kernel_rfl) (some 22) rfl (.tmp 7) rfl (by rfl) n rfl (tdc M) (szC hlM.out) (fun w h => h.2.2.2.1) (fun _ _ _ h => h) (by assumption) ?_
  simp only [Act.put, List.setIfInBounds_toArray, List.set_cons_zero, List.set_cons_succ]
  refine takeL Try.underlying28 (i := 3) rfl (by kernel_rfl) (by kernel_rfl) (by kernel_rfl) (some 23) rfl (.tmp 3) rfl (by rfl) w.heap.size rfl (tdc l) (szC hll.out) (fun w h => h.1) (fun _ _ _ h => h) (by assumption) ?_
  simp only [Act.put, List.setIfInBounds_toArray, List.set_cons_zero, List.set_cons_succ]
  refine wpAnyH_ready (rs := [4]) (by kernel_rfl) (by simp) (AllReadyH.cons rfl (fun K hK => ?_) AllReadyH.nil)
  go_simp
  refine (q3.out _).mono ?_
  rintro e w9 ⟨rfl, b9⟩
  refine hK.out _ _ (keepQ4 b9 hHeld) (fun hHeld => ?_)
  clear hK K
  try simp only [Act.put, List.setIfInBounds_toArray, List.set_cons_zero, List.set_cons_succ]
  refine takeR (i := 5) (v := ?_) rfl (by kernel_rfl) (by kernel_rfl) (by kernel_rfl) (some 25) rfl (Or.inl ⟨by rfl, ?_⟩) (fun _ _ _ h => h) (by assumption) ?_
  rotate_left
  · intro w hSw; (try dsimp only at hSw); go_simp; (try with_reducible rfl)
  simp only [Act.put, List.setIfInBounds_toArray, List.set_cons_zero, List.set_cons_succ]
  refine takeR (i := 6) (v := ?_) rfl (by kernel_rfl) (by kernel_rfl) (by kernel_rfl) (some 26) rfl (Or.inl ⟨by rfl, ?_⟩) (fun _ _ _ h => h) (by assumption) ?_
  rotate_left
  · intro w hSw; (try dsimp only at hSw); go_simp; (try with_reducible rfl)
  simp only [Act.put, List.setIfInBounds_toArray, List.set_cons_zero, List.set_cons_succ]
  refine takeR (i := 7) (v := ?_) rfl (by kernel_rfl) (by kernel_rfl) (by kernel_rfl) (some 27) rfl (Or.inl ⟨by rfl, ?_⟩) (fun _ _ _ h => h) (by assumption) ?_
  rotate_left
  · intro w hSw; (try dsimp only at hSw); go_simp; (try with_reducible rfl)
  simp only [Act.put, List.setIfInBounds_toArray, List.set_cons_zero, List.set_cons_succ]
  refine takeL Try.underlying28 (i := 8) rfl (by kernel_rfl) (by kernel_rfl) (by kernel_rfl) (some 28) rfl (.tmp 3) rfl (by rfl) w.heap.size rfl (tdc l) (szC hll.out) (fun w h => h.1) (fun _ _ _ h => h) (by assumption) ?_
  simp only [Act.put, List.setIfInBounds_toArray, List.set_cons_zero, List.set_cons_succ]
  refine takeL Try.underlying30 (i := 9) rfl (by kernel_rfl) (by kernel_rfl) (by kernel_rfl) (some 29) rfl (.tmp 5) rfl (by rfl) (w.heap.size + 1 + 1) rfl (wdc v) (szW hlv.out) (fun w h => h.2.2.1) (fun _ _ _ h => h) (by assumption) ?_
  simp only [Act.put, List.setIfInBounds_toArray, List.set_cons_zero, List.set_cons_succ]
  refine wpAnyH_ready (rs := [10]) (by kernel_rfl) (by simp) (AllReadyH.cons rfl (fun K hK => ?_) AllReadyH.nil)
  go_simp
  refine (q4.out _).mono ?_
  rintro e w9 ⟨rfl, b9⟩
  refine hK.out _ _ (keepQ4 b9 hHeld) (fun hHeld => ?_)
  clear hK K
  try simp only [Act.put, List.setIfInBounds_toArray, List.set_cons_zero, List.set_cons_succ]
  refine takeR (i := 11) (v := ?_) rfl (by kernel_rfl) (by kernel_rfl) (by kernel_rfl) (some 31) rfl (Or.inl ⟨by rfl, ?_⟩) (fun _ _ _ h => h) (by assumption) ?_
  rotate_left
  · intro w hSw; (try dsimp only at hSw); go_simp; (try with_reducible rfl)
  simp only [Act.put, List.setIfInBounds_toArray, List.set_cons_zero, List.set_cons_succ]
  refine takeR (i := 12) (v := ?_) rfl (by kernel_rfl) (by kernel_rfl) (by kernel_rfl) (some 32) rfl (Or.inl ⟨by rfl, ?_⟩) (fun _ _ _ h => h) (by assumption) ?_
  rotate_left
  · intro w hSw; (try dsimp only at hSw); go_simp; (try with_reducible rfl)
  simp only [Act.put, List.setIfInBounds_toArray, List.set_cons_zero, List.set_cons_succ]
  refine takeR (i := 13) (v := undef) rfl (by kernel_rfl) (by kernel_rfl) (by kernel_rfl) (some 33) rfl (Or.inr ⟨by rfl, rfl⟩) (fun _ _ _ h => h) (by assumption) ?_
  simp only [Act.put, List.setIfInBounds_toArray, List.set_cons_zero, List.set_cons_succ]
  refine takeR (i := 14) (v := undef) rfl (by kernel_rfl) (by kernel_rfl) (by kernel_rfl) (some 34) rfl (Or.inr ⟨by rfl, rfl⟩) (fun _ _ _ h => h) (by assumption) ?_
  simp only [Act.put, List.setIfInBounds_toArray, List.set_cons_zero, List.set_cons_succ]
  refine takeR (i := 15) (v := undef) rfl (by kernel_rfl) (by kernel_rfl) (by kernel_rfl) (some 35) rfl (Or.inr ⟨by rfl, rfl⟩) (fun _ _ _ h => h) (by assumption) ?_
  simp only [Act.put, List.setIfInBounds_toArray, List.set_cons_zero, List.set_cons_succ]
  refine takeR (i := 16) (v := ?_) rfl (by kernel_rfl) (by kernel_rfl) (by kernel_rfl) (some 36) rfl (Or.inl ⟨by rfl, ?_⟩) (fun _ _ _ h => h) (by assumption) ?_
  rotate_left
  · intro w hSw; (try dsimp only at hSw); go_simp; (try with_reducible rfl)
  simp only [Act.put, List.setIfInBounds_toArray, List.set_cons_zero, List.set_cons_succ]
  refine takeR (i := 17) (v := ?_) rfl (by kernel_rfl) (by kernel_rfl) (by kernel_rfl) (some 37) rfl (Or.inl ⟨by rfl, ?_⟩) (fun _ _ _ h => h) (by assumption) ?_
  rotate_left
  · intro w hSw; (try dsimp only at hSw); go_simp; (try with_reducible rfl)
  simp only [Act.put, List.setIfInBounds_toArray, List.set_cons_zero, List.set_cons_succ]
  refine takeR (i := 18) (v := ?_) rfl (by kernel_rfl) (by kernel_rfl) (by kernel_rfl) (some 38) rfl (Or.inl ⟨by rfl, ?_⟩) (fun _ _ _ h => h) (by assumption) ?_
  rotate_left
  · intro w hSw; (try dsimp only at hSw); go_simp; (try with_reducible rfl)
  simp only [Act.put, List.setIfInBounds_toArray, List.set_cons_zero, List.set_cons_succ]
  refine takeL Try.underlying28 (i := 19) rfl (by kernel_rfl) (by kernel_rfl) (by kernel_rfl) (some 39) rfl (.tmp 4) rfl (by rfl) (w.heap.size + 1) rfl (tdc m) (szC hlm.out) (fun w h => h.2.1) (fun _ _ _ h => h) (by assumption) ?_
  simp only [Act.put, List.setIfInBounds_toArray, List.set_cons_zero, List.set_cons_succ]
  refine takeL Try.underlying28 (i := 21) rfl (by kernel_rfl) (by kernel_rfl) (by kernel_rfl) (some 41) rfl (.tmp 3) rfl (by rfl) w.heap.size rfl (tdc l) (szC hll.out) (fun w h => h.1) (fun _ _ _ h => h) (by assumption) ?_
  simp only [Act.put, List.setIfInBounds_toArray, List.set_cons_zero, List.set_cons_succ]
  refine wpAnyH_ready (rs := [20]) (by kernel_rfl) (by simp) (AllReadyH.cons rfl (fun K hK => ?_) AllReadyH.nil)
  go_simp
  refine (q6.out _).mono ?_
  rintro e w9 ⟨rfl, b9⟩
  refine hK.out _ _ (keepQ4 b9 hHeld) (fun hHeld => ?_)
  clear hK K
  try simp only [Act.put, List.setIfInBounds_toArray, List.set_cons_zero, List.set_cons_succ]
  refine wpAnyH_ready (rs := [22]) (by kernel_rfl) (by simp) (AllReadyH.cons rfl (fun K hK => ?_) AllReadyH.nil)
  go_simp
  refine (q7.out _).mono ?_
  rintro e w9 ⟨rfl, b9⟩
  refine hK.out _ _ (keepQ4 b9 hHeld) (fun hHeld => ?_)
  clear hK K
  try simp only [Act.put, List.setIfInBounds_toArray, List.set_cons_zero, List.set_cons_succ]
  refine takeR (i := 23) (v := ?_) rfl (by kernel_rfl) (by kernel_rfl) (by kernel_rfl) (some 43) rfl (Or.inl ⟨by rfl, ?_⟩) (fun _ _ _ h => h) (by assumption) ?_
  rotate_left
  · intro w hSw; (try dsimp only at hSw); go_simp; (try with_reducible rfl)
  simp only [Act.put, List.setIfInBounds_toArray, List.set_cons_zero, List.set_cons_succ]
  refine takeR (i := 24) (v := ?_) rfl (by kernel_rfl) (by kernel_rfl) (by kernel_rfl) (some 44) rfl (Or.inl ⟨by rfl, ?_⟩) (fun _ _ _ h => h) (by assumption) ?_
  rotate_left
  · intro w hSw; (try dsimp only at hSw); go_simp; (try with_reducible rfl)
  simp only [Act.put, List.setIfInBounds_toArray, List.set_cons_zero, List.set_cons_succ]
  refine takeR (i := 25) (v := ?_) rfl (by kernel_rfl) (by kernel_rfl) (by kernel_rfl) (some 45) rfl (Or.inl ⟨by rfl, ?_⟩) (fun _ _ _ h => h) (by assumption) ?_
  rotate_left
  · intro w hSw; (try dsimp only at hSw); go_simp; (try with_reducible rfl)
  simp only [Act.put, List.setIfInBounds_toArray, List.set_cons_zero, List.set_cons_succ]
  refine wpAnyH_ready (rs := [26]) (by kernel_rfl) (by simp) (AllReadyH.cons rfl (fun K hK => ?_) AllReadyH.nil)
  go_simp
  refine (awake6_any _).mono ?_
  rintro e w9 ⟨rfl, b9⟩
  refine hK.out _ _ (keepQ4 b9 hHeld) (fun hHeld => ?_)
  clear hK K
  try simp only [Act.put, List.setIfInBounds_toArray, List.set_cons_zero, List.set_cons_succ]
  refine takeR (i := 27) (v := ?_) rfl (by kernel_rfl) (by kernel_rfl) (by kernel_rfl) (some 47) rfl (Or.inl ⟨by rfl, ?_⟩) (fun _ _ _ h => h) (by assumption) ?_
  rotate_left
  · intro w hSw; (try dsimp only at hSw); go_simp; (try with_reducible rfl)
  simp only [Act.put, List.setIfInBounds_toArray, List.set_cons_zero, List.set_cons_succ]
  refine takeR (i := 28) (v := ?_) rfl (by kernel_rfl) (by kernel_rfl) (by kernel_rfl) (some 6) rfl (Or.inl ⟨by rfl, ?_⟩) (fun _ _ _ h => h) (by assumption) ?_
  rotate_left
  · intro w hSw; (try dsimp only at hSw); go_simp; (try with_reducible rfl)
  simp only [Act.put, List.setIfInBounds_toArray, List.set_cons_zero, List.set_cons_succ]
  refine wpAnyH_done (by kernel_rfl) ?_ _
  have bel := hHeld.2.2.2.2
  clear hHeld
  go_wp2_with fail
  go_ret
  exact ⟨rfl, BV.out.trans (bel.mono BV.out.size)⟩

set_option maxRecDepth 100000 in
set_option maxHeartbeats 4000000 in
theorem cubeWithin_in1 (l m : List Q4) (v : List (Nat × Nat)) (hl : isC l) (hm : isC m) (hv' : isH v) (w : World) (hz : inC l m = true) (hA : hasC l v = true) :
    Calls Try.prog 4 #[cv l, cv m, hv v] w fun e w' => e = .returned (.bool true) ∧ Below w.heap.size w w' := by
  obtain ⟨f1, f2, f3, f4⟩ := withinC l m v hl hm hz
  have q1 := fun w => cmeet_any l m hl hm w
  rw [f1, f2] at q1
  have q1 := hide_ q1
  have q2 := fun w => cwithin_any l m hl hm w
  rw [hz] at q2
  have q2 := hide_ q2
  have q3 := hide_ (fun w => cclean_any l hl w)
  have q4 := fun w => chas_any l v hl hv' w
  rw [hA] at q4
  have q4 := hide_ q4
  have q5 := fun w => chas_any m v hm hv' w
  rw [f3 hA] at q5
  have q5 := hide_ q5
  have q6 := hide_ (fun w => csize_any m hm w)
  have q7 := hide_ (fun w => csize_any l hl w)
  have hn : ((sizeK m 24 : Nat) : Int) ≤ ((sizeK l 24 : Nat) : Int) := by have := f4 24 (Nat.le_refl _); omega
  have hlM := hide_ (show (cleanC l).length = 24 by simp [cleanC])
  have hll := hide_ hl.1
  have hlm := hide_ hm.1
  have hlv := hide_ hv'.1
  have heq := fun w => run_ceqIn (cleanC l) (cleanC l) hlM.out hlM.out w
  rw [decide_eq_true rfl] at heq
  generalize cleanC l = M at *
  generalize sizeK m 24 = n2 at *
  generalize sizeK l 24 = n1 at *
  clear hl hm hv' hz hA f1 f2 f3 f4
  unfold cv at *
  unfold hv at *
  have A0 := hide_ (((AB.at0 w 28 (tdc l)).alloc (.cells (tdc m).toArray 28)).alloc (.cells (wdc v).toArray 30))
  have C0 := hide_ ((AB.at1 w (.cells (tdc l).toArray 28) 28 (tdc m)).alloc (.cells (wdc v).toArray 30))
  have V0 := hide_ (AB.at2 w (.cells (tdc l).toArray 28) (.cells (tdc m).toArray 28) 30 (wdc v))
  have HB := hide_ (below3 w (.cells (tdc l).toArray 28) (.cells (tdc m).toArray 28) (.cells (wdc v).toArray 30))
  obtain ⟨hz0, -⟩ := zero_of_info zC'
  go_enter Try.func4, Try.ntmps4
  go_wp2_with (first | (refine wpList_loadA Try.underlying28 rfl (.tmp 3) rfl w.heap.size (by simp [Act.eval, Act.put]) (tdc l) (szC hll.out) A0.out ?_) | (refine wpList_loadA Try.underlying28 rfl (.tmp 4) rfl (w.heap.size + 1) (by simp [Act.eval, Act.put]) (tdc m) (szC hlm.out) C0.out ?_))
  refine (q1.out _).mono ?_
  rintro e w1 ⟨rfl, b1⟩
  have hne : w.heap.size + 1 + 1 < w1.heap.size := Nat.lt_of_lt_of_le V0.out.lt b1.size
  have HM0 : Hid (AB (w1.alloc (.cells (tdc z24q).toArray 28)) w1.heap.size 28 (tdc z24q)) := hide_ (by rw [zcC]; exact AB.at0 w1 28 (tdc z24q))
  have A1 := hide_ (((A0.out.later b1).alloc (.cells (tdc z24q).toArray 28)).row_far (f := w1.heap.size) (tdc M).toArray (by omega))
  have C1 := hide_ (((C0.out.later b1).alloc (.cells (tdc z24q).toArray 28)).row_far (f := w1.heap.size) (tdc M).toArray (by omega))
  have V1 := hide_ (((V0.out.later b1).alloc (.cells (tdc z24q).toArray 28)).row_far (f := w1.heap.size) (tdc M).toArray (by omega))
  have M1 := hide_ (HM0.out.row (cs' := tdc M))
  have B0 := HB.out.trans (b1.mono HB.out.size)
  have B1 := hide_ ((B0.alloc B0.size (.cells (tdc z24q).toArray 28)).trans (below_row _ w1.heap.size _ (tdc M).toArray (by omega)))
  clear A0 C0 V0 HB B0 b1
  go_wp2_with (first | (refine wpList_storeA rfl (.tmp 7) (.tmp 13) rfl w1.heap.size (by simp [Act.eval, Act.put]) (tdc z24q) (tdc M) (by rw [tdc_length, tdc_length, hlM.out, z24q_len]) (szC hlM.out) (tdc_one _) (by simp [Act.eval, Act.put]) HM0.out ?_; generalize ((w1.alloc (.cells (tdc z24q).toArray 28)).setRow w1.heap.size (tdc M).toArray) = W at *; generalize w1.heap.size = n at *; clear HM0) | (refine wpList_loadA Try.underlying28 rfl (.tmp 3) rfl w.heap.size (by simp [Act.eval, Act.put]) (tdc l) (szC hll.out) A1.out ?_) | (refine wpList_loadA Try.underlying28 rfl (.tmp 4) rfl (w.heap.size + 1) (by simp [Act.eval, Act.put]) (tdc m) (szC hlm.out) C1.out ?_) | (go_at_call 14; refine (q2.out _).mono ?_; rintro e w2 ⟨rfl, b2⟩))
  have BV := hide_ (B1.out.trans (b2.mono B1.out.size))
  have R1 := (A1.out.later b2).range
  have R2 := (C1.out.later b2).range
  have R3 := (V1.out.later b2).range
  have R4 := (M1.out.later b2).range
  clear A1 C1 V1 M1 B1 b2
  try simp only [Act.put]
  generalize w2 = V at *
  refine wp_region_held_drew (S := fun w' => w'.rangeAt w.heap.size 0 (tdc l) ∧ w'.rangeAt (w.heap.size + 1) 0 (tdc m) ∧ w'.rangeAt (w.heap.size + 1 + 1) 0 (wdc v) ∧ w'.rangeAt n 0 (tdc M) ∧ Below V.heap.size V w') (by kernel_rfl) (keepQ4 (Below.refl _ _).drew ⟨R1, R2, R3, R4, Below.refl _ _⟩) (fun hHeld => ?_)
  refine takeR (i := 0) (v := ?_) rfl (by kernel_rfl) (by kernel_rfl) (by kernel_rfl) (some 20) rfl (Or.inl ⟨by rfl, ?_⟩) (fun _ _ _ h => h) (by assumption) ?_
  rotate_left
  · intro w hSw; (try dsimp only at hSw); go_simp; (try with_reducible rfl)
  simp only [Act.put, List.setIfInBounds_toArray, List.set_cons_zero, List.set_cons_succ]
  refine takeR (i := 1) (v := ?_) rfl (by kernel_rfl) (by kernel_rfl) (by kernel_rfl) (some 21) rfl (Or.inl ⟨by rfl, ?_⟩) (fun _ _ _ h => h) (by assumption) ?_
  rotate_left
  · intro w hSw; (try dsimp only at hSw); go_simp; (try with_reducible rfl)
  simp only [Act.put, List.setIfInBounds_toArray, List.set_cons_zero, List.set_cons_succ]
  refine takeL Try.underlying28 (i := 2) rfl (by kernel_rfl) (by kernel_rfl) (by kernel_rfl) (some 22) rfl (.tmp 7) rfl (by rfl) n rfl (tdc M) (szC hlM.out) (fun w h => h.2.2.2.1) (fun _ _ _ h => h) (by assumption) ?_
  simp only [Act.put, List.setIfInBounds_toArray, List.set_cons_zero, List.set_cons_succ]
  refine takeL Try.underlying28 (i := 3) rfl (by kernel_rfl) (by kernel_rfl) (by kernel_rfl) (some 23) rfl (.tmp 3) rfl (by rfl) w.heap.size rfl (tdc l) (szC hll.out) (fun w h => h.1) (fun _ _ _ h => h) (by assumption) ?_
  simp only [Act.put, List.setIfInBounds_toArray, List.set_cons_zero, List.set_cons_succ]
  refine wpAnyH_ready (rs := [4]) (by kernel_rfl) (by simp) (AllReadyH.cons rfl (fun K hK => ?_) AllReadyH.nil)
  go_simp
  refine (q3.out _).mono ?_
  rintro e w9 ⟨rfl, b9⟩
  refine hK.out _ _ (keepQ4 b9 hHeld) (fun hHeld => ?_)
  clear hK K
  try simp only [Act.put, List.setIfInBounds_toArray, List.set_cons_zero, List.set_cons_succ]
  refine takeR (i := 5) (v := ?_) rfl (by kernel_rfl) (by kernel_rfl) (by kernel_rfl) (some 25) rfl (Or.inl ⟨by rfl, ?_⟩) (fun _ _ _ h => h) (by assumption) ?_
  rotate_left
  · intro w hSw; (try dsimp only at hSw); go_simp; (try with_reducible rfl)
  simp only [Act.put, List.setIfInBounds_toArray, List.set_cons_zero, List.set_cons_succ]
  refine takeR (i := 6) (v := ?_) rfl (by kernel_rfl) (by kernel_rfl) (by kernel_rfl) (some 26) rfl (Or.inl ⟨by rfl, ?_⟩) (fun _ _ _ h => h) (by assumption) ?_
  rotate_left
  · intro w hSw; (try dsimp only at hSw); go_simp; (try with_reducible rfl)
  simp only [Act.put, List.setIfInBounds_toArray, List.set_cons_zero, List.set_cons_succ]
  refine takeR (i := 7) (v := ?_) rfl (by kernel_rfl) (by kernel_rfl) (by kernel_rfl) (some 27) rfl (Or.inl ⟨by rfl, ?_⟩) (fun _ _ _ h => h) (by assumption) ?_
  rotate_left
  · intro w hSw; (try dsimp only at hSw); go_simp; (try with_reducible rfl)
  simp only [Act.put, List.setIfInBounds_toArray, List.set_cons_zero, List.set_cons_succ]
  refine takeL Try.underlying28 (i := 8) rfl (by kernel_rfl) (by kernel_rfl) (by kernel_rfl) (some 28) rfl (.tmp 3) rfl (by rfl) w.heap.size rfl (tdc l) (szC hll.out) (fun w h => h.1) (fun _ _ _ h => h) (by assumption) ?_
  simp only [Act.put, List.setIfInBounds_toArray, List.set_cons_zero, List.set_cons_succ]
  refine takeL Try.underlying30 (i := 9) rfl (by kernel_rfl) (by kernel_rfl) (by kernel_rfl) (some 29) rfl (.tmp 5) rfl (by rfl) (w.heap.size + 1 + 1) rfl (wdc v) (szW hlv.out) (fun w h => h.2.2.1) (fun _ _ _ h => h) (by assumption) ?_
  simp only [Act.put, List.setIfInBounds_toArray, List.set_cons_zero, List.set_cons_succ]
  refine wpAnyH_ready (rs := [10]) (by kernel_rfl) (by simp) (AllReadyH.cons rfl (fun K hK => ?_) AllReadyH.nil)
  go_simp
  refine (q4.out _).mono ?_
  rintro e w9 ⟨rfl, b9⟩
  refine hK.out _ _ (keepQ4 b9 hHeld) (fun hHeld => ?_)
  clear hK K
  try simp only [Act.put, List.setIfInBounds_toArray, List.set_cons_zero, List.set_cons_succ]
  refine takeR (i := 11) (v := ?_) rfl (by kernel_rfl) (by kernel_rfl) (by kernel_rfl) (some 31) rfl (Or.inl ⟨by rfl, ?_⟩) (fun _ _ _ h => h) (by assumption) ?_
  rotate_left
  · intro w hSw; (try dsimp only at hSw); go_simp; (try with_reducible rfl)
  simp only [Act.put, List.setIfInBounds_toArray, List.set_cons_zero, List.set_cons_succ]
  refine takeR (i := 12) (v := ?_) rfl (by kernel_rfl) (by kernel_rfl) (by kernel_rfl) (some 32) rfl (Or.inl ⟨by rfl, ?_⟩) (fun _ _ _ h => h) (by assumption) ?_
  rotate_left
  · intro w hSw; (try dsimp only at hSw); go_simp; (try with_reducible rfl)
  simp only [Act.put, List.setIfInBounds_toArray, List.set_cons_zero, List.set_cons_succ]
  refine takeL Try.underlying28 (i := 13) rfl (by kernel_rfl) (by kernel_rfl) (by kernel_rfl) (some 33) rfl (.tmp 4) rfl (by rfl) (w.heap.size + 1) rfl (tdc m) (szC hlm.out) (fun w h => h.2.1) (fun _ _ _ h => h) (by assumption) ?_
  simp only [Act.put, List.setIfInBounds_toArray, List.set_cons_zero, List.set_cons_succ]
  refine takeL Try.underlying30 (i := 14) rfl (by kernel_rfl) (by kernel_rfl) (by kernel_rfl) (some 34) rfl (.tmp 5) rfl (by rfl) (w.heap.size + 1 + 1) rfl (wdc v) (szW hlv.out) (fun w h => h.2.2.1) (fun _ _ _ h => h) (by assumption) ?_
  simp only [Act.put, List.setIfInBounds_toArray, List.set_cons_zero, List.set_cons_succ]
  refine wpAnyH_ready (rs := [15]) (by kernel_rfl) (by simp) (AllReadyH.cons rfl (fun K hK => ?_) AllReadyH.nil)
  go_simp
  refine (q5.out _).mono ?_
  rintro e w9 ⟨rfl, b9⟩
  refine hK.out _ _ (keepQ4 b9 hHeld) (fun hHeld => ?_)
  clear hK K
  try simp only [Act.put, List.setIfInBounds_toArray, List.set_cons_zero, List.set_cons_succ]
  refine takeR (i := 16) (v := ?_) rfl (by kernel_rfl) (by kernel_rfl) (by kernel_rfl) (some 36) rfl (Or.inl ⟨by rfl, ?_⟩) (fun _ _ _ h => h) (by assumption) ?_
  rotate_left
  · intro w hSw; (try dsimp only at hSw); go_simp; (try with_reducible rfl)
  simp only [Act.put, List.setIfInBounds_toArray, List.set_cons_zero, List.set_cons_succ]
  refine takeR (i := 17) (v := ?_) rfl (by kernel_rfl) (by kernel_rfl) (by kernel_rfl) (some 37) rfl (Or.inl ⟨by rfl, ?_⟩) (fun _ _ _ h => h) (by assumption) ?_
  rotate_left
  · intro w hSw; (try dsimp only at hSw); go_simp; (try with_reducible rfl)
  simp only [Act.put, List.setIfInBounds_toArray, List.set_cons_zero, List.set_cons_succ]
  refine takeR (i := 18) (v := ?_) rfl (by kernel_rfl) (by kernel_rfl) (by kernel_rfl) (some 38) rfl (Or.inl ⟨by rfl, ?_⟩) (fun _ _ _ h => h) (by assumption) ?_
  rotate_left
  · intro w hSw; (try dsimp only at hSw); go_simp; (try with_reducible rfl)
  simp only [Act.put, List.setIfInBounds_toArray, List.set_cons_zero, List.set_cons_succ]
  refine takeL Try.underlying28 (i := 19) rfl (by kernel_rfl) (by kernel_rfl) (by kernel_rfl) (some 39) rfl (.tmp 4) rfl (by rfl) (w.heap.size + 1) rfl (tdc m) (szC hlm.out) (fun w h => h.2.1) (fun _ _ _ h => h) (by assumption) ?_
  simp only [Act.put, List.setIfInBounds_toArray, List.set_cons_zero, List.set_cons_succ]
  refine takeL Try.underlying28 (i := 21) rfl (by kernel_rfl) (by kernel_rfl) (by kernel_rfl) (some 41) rfl (.tmp 3) rfl (by rfl) w.heap.size rfl (tdc l) (szC hll.out) (fun w h => h.1) (fun _ _ _ h => h) (by assumption) ?_
  simp only [Act.put, List.setIfInBounds_toArray, List.set_cons_zero, List.set_cons_succ]
  refine wpAnyH_ready (rs := [20]) (by kernel_rfl) (by simp) (AllReadyH.cons rfl (fun K hK => ?_) AllReadyH.nil)
  go_simp
  refine (q6.out _).mono ?_
  rintro e w9 ⟨rfl, b9⟩
  refine hK.out _ _ (keepQ4 b9 hHeld) (fun hHeld => ?_)
  clear hK K
  try simp only [Act.put, List.setIfInBounds_toArray, List.set_cons_zero, List.set_cons_succ]
  refine wpAnyH_ready (rs := [22]) (by kernel_rfl) (by simp) (AllReadyH.cons rfl (fun K hK => ?_) AllReadyH.nil)
  go_simp
  refine (q7.out _).mono ?_
  rintro e w9 ⟨rfl, b9⟩
  refine hK.out _ _ (keepQ4 b9 hHeld) (fun hHeld => ?_)
  clear hK K
  try simp only [Act.put, List.setIfInBounds_toArray, List.set_cons_zero, List.set_cons_succ]
  refine takeR (i := 23) (v := ?_) rfl (by kernel_rfl) (by kernel_rfl) (by kernel_rfl) (some 43) rfl (Or.inl ⟨by rfl, ?_⟩) (fun _ _ _ h => h) (by assumption) ?_
  rotate_left
  · intro w hSw; (try dsimp only at hSw); go_simp; (try with_reducible rfl)
  simp only [Act.put, List.setIfInBounds_toArray, List.set_cons_zero, List.set_cons_succ]
  refine takeR (i := 24) (v := ?_) rfl (by kernel_rfl) (by kernel_rfl) (by kernel_rfl) (some 44) rfl (Or.inl ⟨by rfl, ?_⟩) (fun _ _ _ h => h) (by assumption) ?_
  rotate_left
  · intro w hSw; (try dsimp only at hSw); go_simp; (try with_reducible rfl)
  simp only [Act.put, List.setIfInBounds_toArray, List.set_cons_zero, List.set_cons_succ]
  refine takeR (i := 25) (v := ?_) rfl (by kernel_rfl) (by kernel_rfl) (by kernel_rfl) (some 45) rfl (Or.inl ⟨by rfl, ?_⟩) (fun _ _ _ h => h) (by assumption) ?_
  rotate_left
  · intro w hSw; (try dsimp only at hSw); go_simp; (try with_reducible rfl)
  simp only [Act.put, List.setIfInBounds_toArray, List.set_cons_zero, List.set_cons_succ]
  refine wpAnyH_ready (rs := [26]) (by kernel_rfl) (by simp) (AllReadyH.cons rfl (fun K hK => ?_) AllReadyH.nil)
  go_simp
  refine (awake6_any _).mono ?_
  rintro e w9 ⟨rfl, b9⟩
  refine hK.out _ _ (keepQ4 b9 hHeld) (fun hHeld => ?_)
  clear hK K
  try simp only [Act.put, List.setIfInBounds_toArray, List.set_cons_zero, List.set_cons_succ]
  refine takeR (i := 27) (v := ?_) rfl (by kernel_rfl) (by kernel_rfl) (by kernel_rfl) (some 47) rfl (Or.inl ⟨by rfl, ?_⟩) (fun _ _ _ h => h) (by assumption) ?_
  rotate_left
  · intro w hSw; (try dsimp only at hSw); go_simp; (try with_reducible rfl)
  simp only [Act.put, List.setIfInBounds_toArray, List.set_cons_zero, List.set_cons_succ]
  refine takeR (i := 28) (v := ?_) rfl (by kernel_rfl) (by kernel_rfl) (by kernel_rfl) (some 6) rfl (Or.inl ⟨by rfl, ?_⟩) (fun _ _ _ h => h) (by assumption) ?_
  rotate_left
  · intro w hSw; (try dsimp only at hSw); go_simp; (try with_reducible rfl)
  simp only [Act.put, List.setIfInBounds_toArray, List.set_cons_zero, List.set_cons_succ]
  refine wpAnyH_done (by kernel_rfl) ?_ _
  have bel := hHeld.2.2.2.2
  clear hHeld
  go_wp2_with fail
  go_ret
  exact ⟨rfl, BV.out.trans (bel.mono BV.out.size)⟩

theorem cubeWithin_walk (l m : List Q4) (v : List (Nat × Nat)) (hl : isC l) (hm : isC m) (hv' : isH v) (w : World) :
    Calls Try.prog 4 #[cv l, cv m, hv v] w fun e w' => e = .returned (.bool true) ∧ Below w.heap.size w w' := by
  cases hz : inC l m
  · exact cubeWithin_out l m v hl hm hv' w hz
  · cases hA : hasC l v
    · exact cubeWithin_in0 l m v hl hm hv' w hz hA
    · exact cubeWithin_in1 l m v hl hm hv' w hz hA


end Go.Proofs.Ytabeahglfhhfmab
