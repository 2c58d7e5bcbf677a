import Derived.Test.YtickphnfgaibiaaQk
import Derived.Test.YtickphnfgaibiaaQf
import Derived.Test.YtickphnfgaibiaaQg
import Derived.Test.YtickphnfgaibiaaHg
import Derived.Test.YtickphnfgaibiaaHf
namespace Go.Proofs.Ytickphnfgaibiaa
open Go Go.RowKit
set_option linter.unusedVariables false
set_option linter.unusedSimpArgs false

theorem keepQ5 {w0 wa wb : World} {g1 g2 g3 g4 g5 : Nat} {c1 c2 c3 c4 c5 : List Value} (k : Below wa.heap.size wa wb) (h : wa.rangeAt g1 0 c1 ∧ wa.rangeAt g2 0 c2 ∧ wa.rangeAt g3 0 c3 ∧ wa.rangeAt g4 0 c4 ∧ wa.rangeAt g5 0 c5 ∧ Below w0.heap.size w0 wa) : wb.rangeAt g1 0 c1 ∧ wb.rangeAt g2 0 c2 ∧ wb.rangeAt g3 0 c3 ∧ wb.rangeAt g4 0 c4 ∧ wb.rangeAt g5 0 c5 ∧ Below w0.heap.size w0 wb :=
  ⟨range_later h.1 k, range_later h.2.1 k, range_later h.2.2.1 k, range_later h.2.2.2.1 k, range_later h.2.2.2.2.1 k, h.2.2.2.2.2.trans (k.mono h.2.2.2.2.2.size)⟩

set_option maxRecDepth 100000 in
set_option maxHeartbeats 8000000 in
theorem cubeTells_walk (l m : List Q4) (v : List (Nat × Nat)) (hl : isC l) (hm : isC m) (hv' : isH v) (w : World) :
    Calls Try.prog 3 #[cv l, cv m, hv v] w fun e w' => e = .returned (.bool true) ∧ Below w.heap.size w w' := by
  have q1 := hide_ (fun w => cmeet_any l m hl hm w)
  have q2 := hide_ (fun w => rcmeet_any l m hl hm w)
  have q3 := hide_ (fun w => chas_any l v hl hv' w)
  have q4 := hide_ (fun w => rchas_any l v hl hv' w)
  have q5 := hide_ (fun w => cwithin_any l m hl hm w)
  have q6 := hide_ (fun w => rcwithin_any l m hl hm w)
  have q7 := hide_ (fun w => cpick_any l hl w)
  have q8 := hide_ (fun w => rcpick_any l hl w)
  have q9 := hide_ (fun w => csize_any l hl w)
  have q10 := hide_ (fun w => rcsize_any l hl w)
  have q11 := hide_ (fun w => cclean_any l hl w)
  have q12 := hide_ (fun w => rcclean_any l hl w)
  have q13 := hide_ (fun w => cone_any v hv' w)
  have q14 := hide_ (fun w => rcone_any v hv' w)
  have q15 := hide_ (fun w => call_any w)
  have q16 := hide_ (fun w => rcall_any w)
  have hlM := hide_ (meetC_isC l m hl hm).1
  have hll := hide_ hl.1
  have hlm := hide_ hm.1
  have hlv := hide_ hv'.1
  have e1 := fun w => run_ceqIn (meetC l m) (meetC l m) hlM.out hlM.out w
  have e2 := fun w => run_heqIn (pickC l) (pickC l) (by simp [pickC, cleanC]) (by simp [pickC, cleanC]) w
  have e3 := fun w => run_ceqIn (cleanC l) (cleanC l) (by simp [cleanC]) (by simp [cleanC]) w
  have e4 := fun w => run_ceqIn (oneC v) (oneC v) (by simp [oneC]) (by simp [oneC]) w
  have e5 := fun w => run_ceqIn z24q z24q z24q_len z24q_len w
  rw [decide_eq_true rfl] at e1 e2 e3 e4 e5
  unfold cv at *
  unfold hv at *
  generalize meetC l m = M at *
  generalize okC l m = ok at *
  generalize hasC l v = zA at *
  generalize inC l m = zB at *
  generalize pickC l = P at *
  generalize sizeK l 24 = N at *
  generalize cleanC l = C at *
  generalize oneC v = O at *
  clear hl hm hv'
  have A0 := hide_ (((AB.at0 w 28 (tdc l)).alloc (.cells (tdc m).toArray 28)).alloc (.cells (wdc v).toArray 30))
  have C0 := hide_ ((AB.at1 w (.cells (tdc l).toArray 28) 28 (tdc m)).alloc (.cells (wdc v).toArray 30))
  have V0 := hide_ (AB.at2 w (.cells (tdc l).toArray 28) (.cells (tdc m).toArray 28) 30 (wdc v))
  have HB := hide_ (below3 w (.cells (tdc l).toArray 28) (.cells (tdc m).toArray 28) (.cells (wdc v).toArray 30))
  go_enter Try.func3, Try.ntmps3
  go_wp2_with (first | (refine wpList_loadA Try.underlying28 rfl (.tmp 3) rfl w.heap.size (by simp [Act.eval, Act.put]) (tdc l) (szC hll.out) A0.out ?_) | (refine wpList_loadA Try.underlying28 rfl (.tmp 4) rfl (w.heap.size + 1) (by simp [Act.eval, Act.put]) (tdc m) (szC hlm.out) C0.out ?_))
  refine (q1.out _).mono ?_
  rintro e w1 ⟨rfl, b1⟩
  have hne : w.heap.size + 1 + 1 < w1.heap.size := Nat.lt_of_lt_of_le V0.out.lt b1.size
  have HM0 : Hid (AB (w1.alloc (.cells Try.zeroCells28 28)) w1.heap.size 28 (tdc z24q)) := hide_ (by rw [zcC]; exact AB.at0 w1 28 (tdc z24q))
  have A1 := hide_ (((A0.out.later b1).alloc (.cells Try.zeroCells28 28)).row_far (f := w1.heap.size) (tdc M).toArray (by omega))
  have C1 := hide_ (((C0.out.later b1).alloc (.cells Try.zeroCells28 28)).row_far (f := w1.heap.size) (tdc M).toArray (by omega))
  have V1 := hide_ (((V0.out.later b1).alloc (.cells Try.zeroCells28 28)).row_far (f := w1.heap.size) (tdc M).toArray (by omega))
  have M1 := hide_ (HM0.out.row (cs' := tdc M))
  have B0 := HB.out.trans (b1.mono HB.out.size)
  have B1 := hide_ ((B0.alloc B0.size (.cells Try.zeroCells28 28)).trans (below_row _ w1.heap.size _ (tdc M).toArray (by omega)))
  clear A0 C0 V0 HB B0 b1
  go_wp2_with (first | (refine wpList_storeA rfl (.tmp 7) (.tmp 16) rfl w1.heap.size (by simp [Act.eval, Act.put]) (tdc z24q) (tdc M) (by rw [tdc_length, tdc_length, hlM.out, z24q_len]) (szC hlM.out) (tdc_one _) (by simp [Act.eval, Act.put]) HM0.out ?_; generalize ((w1.alloc (.cells Try.zeroCells28 28)).setRow w1.heap.size (tdc M).toArray) = W1 at *; generalize w1.heap.size = n1 at *; clear HM0) | (refine wpList_loadA Try.underlying28 rfl (.tmp 3) rfl w.heap.size (by simp [Act.eval, Act.put]) (tdc l) (szC hll.out) A1.out ?_) | (refine wpList_loadA Try.underlying28 rfl (.tmp 4) rfl (w.heap.size + 1) (by simp [Act.eval, Act.put]) (tdc m) (szC hlm.out) C1.out ?_) | (go_at_call 10; refine (q2.out _).mono ?_; rintro e w2 ⟨rfl, b2⟩; have hne2 : n1 < w2.heap.size := Nat.lt_of_lt_of_le M1.out.lt b2.size; have HN0 : Hid (AB (w2.alloc (.cells Try.zeroCells28 28)) w2.heap.size 28 (tdc z24q)) := hide_ (by rw [zcC]; exact AB.at0 w2 28 (tdc z24q)); have A2 := hide_ (((A1.out.later b2).alloc (.cells Try.zeroCells28 28)).row_far (f := w2.heap.size) (tdc M).toArray (by omega)); have C2 := hide_ (((C1.out.later b2).alloc (.cells Try.zeroCells28 28)).row_far (f := w2.heap.size) (tdc M).toArray (by omega)); have V2 := hide_ (((V1.out.later b2).alloc (.cells Try.zeroCells28 28)).row_far (f := w2.heap.size) (tdc M).toArray (by omega)); have M2 := hide_ (((M1.out.later b2).alloc (.cells Try.zeroCells28 28)).row_far (f := w2.heap.size) (tdc M).toArray (by omega)); have N2 := hide_ (HN0.out.row (cs' := tdc M)); have B2 := hide_ (((B1.out.trans (b2.mono B1.out.size)).alloc (B1.out.trans (b2.mono B1.out.size)).size (.cells Try.zeroCells28 28)).trans (below_row _ w2.heap.size _ (tdc M).toArray (by omega))); clear A1 C1 V1 M1 B1 b2) | (refine wpList_storeA rfl (.tmp 9) (.tmp 22) rfl w2.heap.size (by simp [Act.eval, Act.put]) (tdc z24q) (tdc M) (by rw [tdc_length, tdc_length, hlM.out, z24q_len]) (szC hlM.out) (tdc_one _) (by simp [Act.eval, Act.put]) HN0.out ?_; generalize ((w2.alloc (.cells Try.zeroCells28 28)).setRow w2.heap.size (tdc M).toArray) = W2 at *; generalize w2.heap.size = n2 at *; clear HN0))
  have BV := B2
  have R1 := A2.out.range
  have R2 := C2.out.range
  have R3 := V2.out.range
  have R4 := M2.out.range
  have R5 := N2.out.range
  clear A2 C2 V2 M2 N2 B2
  try simp only [Act.put]
  generalize W2 = V at *
  refine wp_region_held_drew (S := fun w' => w'.rangeAt w.heap.size 0 (tdc l) ∧ w'.rangeAt (w.heap.size + 1) 0 (tdc m) ∧ w'.rangeAt (w.heap.size + 1 + 1) 0 (wdc v) ∧ w'.rangeAt n1 0 (tdc M) ∧ w'.rangeAt n2 0 (tdc M) ∧ Below V.heap.size V w') (by kernel_rfl) (keepQ5 (Below.refl _ _).drew ⟨R1, R2, R3, R4, R5, Below.refl _ _⟩) (fun hHeld => ?_)
  refine takeL Try.underlying28 (i := 0) rfl (by kernel_rfl) (by kernel_rfl) (by kernel_rfl) (some 24) rfl (.tmp 7) rfl (by rfl) n1 rfl (tdc M) (szC hlM.out) (fun w h => h.2.2.2.1) (fun _ _ _ h => h) (by assumption) ?_
  simp only [Act.put, List.setIfInBounds_toArray, List.set_cons_zero, List.set_cons_succ]
  refine takeL Try.underlying28 (i := 1) rfl (by kernel_rfl) (by kernel_rfl) (by kernel_rfl) (some 25) rfl (.tmp 9) rfl (by rfl) n2 rfl (tdc M) (szC hlM.out) (fun w h => h.2.2.2.2.1) (fun _ _ _ h => h) (by assumption) ?_
  simp only [Act.put, List.setIfInBounds_toArray, List.set_cons_zero, List.set_cons_succ]
  refine takeR (i := 2) (v := ?_) rfl (by kernel_rfl) (by kernel_rfl) (by kernel_rfl) (some 26) rfl (Or.inl ⟨by rfl, ?_⟩) (fun _ _ _ h => h) (by assumption) ?_
  rotate_left
  · intro w hSw; (try dsimp only at hSw); go_simp; (try with_reducible rfl)
  simp only [Act.put, List.setIfInBounds_toArray, List.set_cons_zero, List.set_cons_succ]
  refine takeR (i := 3) (v := ?_) rfl (by kernel_rfl) (by kernel_rfl) (by kernel_rfl) (some 27) rfl (Or.inl ⟨by rfl, ?_⟩) (fun _ _ _ h => h) (by assumption) ?_
  rotate_left
  · intro w hSw; (try dsimp only at hSw); go_simp; (try with_reducible rfl)
  simp only [Act.put, List.setIfInBounds_toArray, List.set_cons_zero, List.set_cons_succ]
  refine takeR (i := 4) (v := ?_) rfl (by kernel_rfl) (by kernel_rfl) (by kernel_rfl) (some 28) rfl (Or.inl ⟨by rfl, ?_⟩) (fun _ _ _ h => h) (by assumption) ?_
  rotate_left
  · intro w hSw; (try dsimp only at hSw); go_simp; (try with_reducible rfl)
  simp only [Act.put, List.setIfInBounds_toArray, List.set_cons_zero, List.set_cons_succ]
  refine takeR (i := 5) (v := ?_) rfl (by kernel_rfl) (by kernel_rfl) (by kernel_rfl) (some 29) rfl (Or.inl ⟨by rfl, ?_⟩) (fun _ _ _ h => h) (by assumption) ?_
  rotate_left
  · intro w hSw; (try dsimp only at hSw); go_simp; (try with_reducible rfl)
  simp only [Act.put, List.setIfInBounds_toArray, List.set_cons_zero, List.set_cons_succ]
  refine takeR (i := 6) (v := ?_) rfl (by kernel_rfl) (by kernel_rfl) (by kernel_rfl) (some 30) rfl (Or.inl ⟨by rfl, ?_⟩) (fun _ _ _ h => h) (by assumption) ?_
  rotate_left
  · intro w hSw; (try dsimp only at hSw); go_simp; (try with_reducible rfl)
  simp only [Act.put, List.setIfInBounds_toArray, List.set_cons_zero, List.set_cons_succ]
  refine takeR (i := 7) (v := ?_) rfl (by kernel_rfl) (by kernel_rfl) (by kernel_rfl) (some 31) rfl (Or.inl ⟨by rfl, ?_⟩) (fun _ _ _ h => h) (by assumption) ?_
  rotate_left
  · intro w hSw; (try dsimp only at hSw); go_simp; (try with_reducible rfl)
  simp only [Act.put, List.setIfInBounds_toArray, List.set_cons_zero, List.set_cons_succ]
  refine takeR (i := 8) (v := ?_) rfl (by kernel_rfl) (by kernel_rfl) (by kernel_rfl) (some 32) rfl (Or.inl ⟨by rfl, ?_⟩) (fun _ _ _ h => h) (by assumption) ?_
  rotate_left
  · intro w hSw; (try dsimp only at hSw); go_simp; (try with_reducible rfl)
  simp only [Act.put, List.setIfInBounds_toArray, List.set_cons_zero, List.set_cons_succ]
  refine takeL Try.underlying28 (i := 9) rfl (by kernel_rfl) (by kernel_rfl) (by kernel_rfl) (some 33) rfl (.tmp 3) rfl (by rfl) w.heap.size rfl (tdc l) (szC hll.out) (fun w h => h.1) (fun _ _ _ h => h) (by assumption) ?_
  simp only [Act.put, List.setIfInBounds_toArray, List.set_cons_zero, List.set_cons_succ]
  refine takeL Try.underlying30 (i := 10) rfl (by kernel_rfl) (by kernel_rfl) (by kernel_rfl) (some 34) rfl (.tmp 5) rfl (by rfl) (w.heap.size + 1 + 1) rfl (wdc v) (szW hlv.out) (fun w h => h.2.2.1) (fun _ _ _ h => h) (by assumption) ?_
  simp only [Act.put, List.setIfInBounds_toArray, List.set_cons_zero, List.set_cons_succ]
  refine takeL Try.underlying28 (i := 12) rfl (by kernel_rfl) (by kernel_rfl) (by kernel_rfl) (some 36) rfl (.tmp 3) rfl (by rfl) w.heap.size rfl (tdc l) (szC hll.out) (fun w h => h.1) (fun _ _ _ h => h) (by assumption) ?_
  simp only [Act.put, List.setIfInBounds_toArray, List.set_cons_zero, List.set_cons_succ]
  refine takeL Try.underlying30 (i := 13) rfl (by kernel_rfl) (by kernel_rfl) (by kernel_rfl) (some 37) rfl (.tmp 5) rfl (by rfl) (w.heap.size + 1 + 1) rfl (wdc v) (szW hlv.out) (fun w h => h.2.2.1) (fun _ _ _ h => h) (by assumption) ?_
  simp only [Act.put, List.setIfInBounds_toArray, List.set_cons_zero, List.set_cons_succ]
  refine wpAnyH_ready (rs := [11]) (by kernel_rfl) (by simp) (AllReadyH.cons rfl (fun K hK => ?_) AllReadyH.nil)
  go_simp
  refine (q3.out _).mono ?_
  rintro e w9 ⟨rfl, b9⟩
  refine hK.out _ _ (keepQ5 b9 hHeld) (fun hHeld => ?_)
  clear hK K
  try simp only [Act.put, List.setIfInBounds_toArray, List.set_cons_zero, List.set_cons_succ]
  refine wpAnyH_ready (rs := [14]) (by kernel_rfl) (by simp) (AllReadyH.cons rfl (fun K hK => ?_) AllReadyH.nil)
  go_simp
  refine (q4.out _).mono ?_
  rintro e w9 ⟨rfl, b9⟩
  refine hK.out _ _ (keepQ5 b9 hHeld) (fun hHeld => ?_)
  clear hK K
  try simp only [Act.put, List.setIfInBounds_toArray, List.set_cons_zero, List.set_cons_succ]
  refine takeR (i := 15) (v := ?_) rfl (by kernel_rfl) (by kernel_rfl) (by kernel_rfl) (some 39) rfl (Or.inl ⟨by rfl, ?_⟩) (fun _ _ _ h => h) (by assumption) ?_
  rotate_left
  · intro w hSw; (try dsimp only at hSw); go_simp; (try with_reducible rfl)
  simp only [Act.put, List.setIfInBounds_toArray, List.set_cons_zero, List.set_cons_succ]
  refine takeR (i := 16) (v := ?_) rfl (by kernel_rfl) (by kernel_rfl) (by kernel_rfl) (some 40) rfl (Or.inl ⟨by rfl, ?_⟩) (fun _ _ _ h => h) (by assumption) ?_
  rotate_left
  · intro w hSw; (try dsimp only at hSw); go_simp; (try with_reducible rfl)
  simp only [Act.put, List.setIfInBounds_toArray, List.set_cons_zero, List.set_cons_succ]
  refine takeR (i := 17) (v := ?_) rfl (by kernel_rfl) (by kernel_rfl) (by kernel_rfl) (some 41) rfl (Or.inl ⟨by rfl, ?_⟩) (fun _ _ _ h => h) (by assumption) ?_
  rotate_left
  · intro w hSw; (try dsimp only at hSw); go_simp; (try with_reducible rfl)
  simp only [Act.put, List.setIfInBounds_toArray, List.set_cons_zero, List.set_cons_succ]
  refine takeL Try.underlying28 (i := 18) rfl (by kernel_rfl) (by kernel_rfl) (by kernel_rfl) (some 42) rfl (.tmp 3) rfl (by rfl) w.heap.size rfl (tdc l) (szC hll.out) (fun w h => h.1) (fun _ _ _ h => h) (by assumption) ?_
  simp only [Act.put, List.setIfInBounds_toArray, List.set_cons_zero, List.set_cons_succ]
  refine takeL Try.underlying28 (i := 19) rfl (by kernel_rfl) (by kernel_rfl) (by kernel_rfl) (some 43) rfl (.tmp 4) rfl (by rfl) (w.heap.size + 1) rfl (tdc m) (szC hlm.out) (fun w h => h.2.1) (fun _ _ _ h => h) (by assumption) ?_
  simp only [Act.put, List.setIfInBounds_toArray, List.set_cons_zero, List.set_cons_succ]
  refine takeL Try.underlying28 (i := 21) rfl (by kernel_rfl) (by kernel_rfl) (by kernel_rfl) (some 45) rfl (.tmp 3) rfl (by rfl) w.heap.size rfl (tdc l) (szC hll.out) (fun w h => h.1) (fun _ _ _ h => h) (by assumption) ?_
  simp only [Act.put, List.setIfInBounds_toArray, List.set_cons_zero, List.set_cons_succ]
  refine takeL Try.underlying28 (i := 22) rfl (by kernel_rfl) (by kernel_rfl) (by kernel_rfl) (some 46) rfl (.tmp 4) rfl (by rfl) (w.heap.size + 1) rfl (tdc m) (szC hlm.out) (fun w h => h.2.1) (fun _ _ _ h => h) (by assumption) ?_
  simp only [Act.put, List.setIfInBounds_toArray, List.set_cons_zero, List.set_cons_succ]
  refine wpAnyH_ready (rs := [20]) (by kernel_rfl) (by simp) (AllReadyH.cons rfl (fun K hK => ?_) AllReadyH.nil)
  go_simp
  refine (q5.out _).mono ?_
  rintro e w9 ⟨rfl, b9⟩
  refine hK.out _ _ (keepQ5 b9 hHeld) (fun hHeld => ?_)
  clear hK K
  try simp only [Act.put, List.setIfInBounds_toArray, List.set_cons_zero, List.set_cons_succ]
  refine wpAnyH_ready (rs := [23]) (by kernel_rfl) (by simp) (AllReadyH.cons rfl (fun K hK => ?_) AllReadyH.nil)
  go_simp
  refine (q6.out _).mono ?_
  rintro e w9 ⟨rfl, b9⟩
  refine hK.out _ _ (keepQ5 b9 hHeld) (fun hHeld => ?_)
  clear hK K
  try simp only [Act.put, List.setIfInBounds_toArray, List.set_cons_zero, List.set_cons_succ]
  refine takeR (i := 24) (v := ?_) rfl (by kernel_rfl) (by kernel_rfl) (by kernel_rfl) (some 48) rfl (Or.inl ⟨by rfl, ?_⟩) (fun _ _ _ h => h) (by assumption) ?_
  rotate_left
  · intro w hSw; (try dsimp only at hSw); go_simp; (try with_reducible rfl)
  simp only [Act.put, List.setIfInBounds_toArray, List.set_cons_zero, List.set_cons_succ]
  refine takeR (i := 25) (v := ?_) rfl (by kernel_rfl) (by kernel_rfl) (by kernel_rfl) (some 49) rfl (Or.inl ⟨by rfl, ?_⟩) (fun _ _ _ h => h) (by assumption) ?_
  rotate_left
  · intro w hSw; (try dsimp only at hSw); go_simp; (try with_reducible rfl)
  simp only [Act.put, List.setIfInBounds_toArray, List.set_cons_zero, List.set_cons_succ]
  refine takeR (i := 26) (v := ?_) rfl (by kernel_rfl) (by kernel_rfl) (by kernel_rfl) (some 11) rfl (Or.inl ⟨by rfl, ?_⟩) (fun _ _ _ h => h) (by assumption) ?_
  rotate_left
  · intro w hSw; (try dsimp only at hSw); go_simp; (try with_reducible rfl)
  simp only [Act.put, List.setIfInBounds_toArray, List.set_cons_zero, List.set_cons_succ]
  refine wpAnyH_done (by kernel_rfl) ?_ _
  have bel := hHeld.2.2.2.2.2
  obtain ⟨S1, S2, S3, S4, S5, -⟩ := hHeld
  have BV := hide_ (BV.out.trans (bel.mono BV.out.size))
  clear bel R1 R2 R3 R4 R5 b9
  go_wp2_with fail
  try simp only [Act.put]
  generalize w9 = Va at *
  refine wp_region_held_drew (S := fun w' => w'.rangeAt w.heap.size 0 (tdc l) ∧ w'.rangeAt (w.heap.size + 1) 0 (tdc m) ∧ w'.rangeAt (w.heap.size + 1 + 1) 0 (wdc v) ∧ w'.rangeAt n1 0 (tdc M) ∧ w'.rangeAt n2 0 (tdc M) ∧ Below Va.heap.size Va w') (by kernel_rfl) (keepQ5 (Below.refl _ _).drew ⟨S1, S2, S3, S4, S5, Below.refl _ _⟩) (fun hHeld => ?_)
  refine takeR (i := 0) (v := ?_) rfl (by kernel_rfl) (by kernel_rfl) (by kernel_rfl) (some 50) rfl (Or.inl ⟨by rfl, ?_⟩) (fun _ _ _ h => h) (by assumption) ?_
  rotate_left
  · intro w hSw; (try dsimp only at hSw); go_simp; (try with_reducible rfl)
  simp only [Act.put, List.setIfInBounds_toArray, List.set_cons_zero, List.set_cons_succ]
  refine takeR (i := 1) (v := ?_) rfl (by kernel_rfl) (by kernel_rfl) (by kernel_rfl) (some 51) rfl (Or.inl ⟨by rfl, ?_⟩) (fun _ _ _ h => h) (by assumption) ?_
  rotate_left
  · intro w hSw; (try dsimp only at hSw); go_simp; (try with_reducible rfl)
  simp only [Act.put, List.setIfInBounds_toArray, List.set_cons_zero, List.set_cons_succ]
  refine takeL Try.underlying28 (i := 2) rfl (by kernel_rfl) (by kernel_rfl) (by kernel_rfl) (some 52) rfl (.tmp 3) rfl (by rfl) w.heap.size rfl (tdc l) (szC hll.out) (fun w h => h.1) (fun _ _ _ h => h) (by assumption) ?_
  simp only [Act.put, List.setIfInBounds_toArray, List.set_cons_zero, List.set_cons_succ]
  refine takeL Try.underlying28 (i := 4) rfl (by kernel_rfl) (by kernel_rfl) (by kernel_rfl) (some 54) rfl (.tmp 3) rfl (by rfl) w.heap.size rfl (tdc l) (szC hll.out) (fun w h => h.1) (fun _ _ _ h => h) (by assumption) ?_
  simp only [Act.put, List.setIfInBounds_toArray, List.set_cons_zero, List.set_cons_succ]
  refine wpAnyH_ready (rs := [3]) (by kernel_rfl) (by simp) (AllReadyH.cons rfl (fun K hK => ?_) AllReadyH.nil)
  go_simp
  refine (q7.out _).mono ?_
  rintro e w9 ⟨rfl, b9⟩
  refine hK.out _ _ (keepQ5 b9 hHeld) (fun hHeld => ?_)
  clear hK K
  try simp only [Act.put, List.setIfInBounds_toArray, List.set_cons_zero, List.set_cons_succ]
  refine wpAnyH_ready (rs := [5]) (by kernel_rfl) (by simp) (AllReadyH.cons rfl (fun K hK => ?_) AllReadyH.nil)
  go_simp
  refine (q8.out _).mono ?_
  rintro e w9 ⟨rfl, b9⟩
  refine hK.out _ _ (keepQ5 b9 hHeld) (fun hHeld => ?_)
  clear hK K
  try simp only [Act.put, List.setIfInBounds_toArray, List.set_cons_zero, List.set_cons_succ]
  refine takeR (i := 6) (v := ?_) rfl (by kernel_rfl) (by kernel_rfl) (by kernel_rfl) (some 56) rfl (Or.inl ⟨by rfl, ?_⟩) (fun _ _ _ h => h) (by assumption) ?_
  rotate_left
  · intro w hSw; (try dsimp only at hSw); go_simp; (try with_reducible rfl)
  simp only [Act.put, List.setIfInBounds_toArray, List.set_cons_zero, List.set_cons_succ]
  refine takeR (i := 7) (v := ?_) rfl (by kernel_rfl) (by kernel_rfl) (by kernel_rfl) (some 57) rfl (Or.inl ⟨by rfl, ?_⟩) (fun _ _ _ h => h) (by assumption) ?_
  rotate_left
  · intro w hSw; (try dsimp only at hSw); go_simp; (try with_reducible rfl)
  simp only [Act.put, List.setIfInBounds_toArray, List.set_cons_zero, List.set_cons_succ]
  refine takeR (i := 8) (v := ?_) rfl (by kernel_rfl) (by kernel_rfl) (by kernel_rfl) (some 58) rfl (Or.inl ⟨by rfl, ?_⟩) (fun _ _ _ h => h) (by assumption) ?_
  rotate_left
  · intro w hSw; (try dsimp only at hSw); go_simp; (try with_reducible rfl)
  simp only [Act.put, List.setIfInBounds_toArray, List.set_cons_zero, List.set_cons_succ]
  refine takeL Try.underlying28 (i := 9) rfl (by kernel_rfl) (by kernel_rfl) (by kernel_rfl) (some 59) rfl (.tmp 3) rfl (by rfl) w.heap.size rfl (tdc l) (szC hll.out) (fun w h => h.1) (fun _ _ _ h => h) (by assumption) ?_
  simp only [Act.put, List.setIfInBounds_toArray, List.set_cons_zero, List.set_cons_succ]
  refine takeL Try.underlying28 (i := 11) rfl (by kernel_rfl) (by kernel_rfl) (by kernel_rfl) (some 61) rfl (.tmp 3) rfl (by rfl) w.heap.size rfl (tdc l) (szC hll.out) (fun w h => h.1) (fun _ _ _ h => h) (by assumption) ?_
  simp only [Act.put, List.setIfInBounds_toArray, List.set_cons_zero, List.set_cons_succ]
  refine wpAnyH_ready (rs := [10]) (by kernel_rfl) (by simp) (AllReadyH.cons rfl (fun K hK => ?_) AllReadyH.nil)
  go_simp
  refine (q9.out _).mono ?_
  rintro e w9 ⟨rfl, b9⟩
  refine hK.out _ _ (keepQ5 b9 hHeld) (fun hHeld => ?_)
  clear hK K
  try simp only [Act.put, List.setIfInBounds_toArray, List.set_cons_zero, List.set_cons_succ]
  refine wpAnyH_ready (rs := [12]) (by kernel_rfl) (by simp) (AllReadyH.cons rfl (fun K hK => ?_) AllReadyH.nil)
  go_simp
  refine (q10.out _).mono ?_
  rintro e w9 ⟨rfl, b9⟩
  refine hK.out _ _ (keepQ5 b9 hHeld) (fun hHeld => ?_)
  clear hK K
  try simp only [Act.put, List.setIfInBounds_toArray, List.set_cons_zero, List.set_cons_succ]
  refine takeR (i := 13) (v := ?_) rfl (by kernel_rfl) (by kernel_rfl) (by kernel_rfl) (some 63) rfl (Or.inl ⟨by rfl, ?_⟩) (fun _ _ _ h => h) (by assumption) ?_
  rotate_left
  · intro w hSw; (try dsimp only at hSw); go_simp; (try with_reducible rfl)
  simp only [Act.put, List.setIfInBounds_toArray, List.set_cons_zero, List.set_cons_succ]
  refine takeR (i := 14) (v := ?_) rfl (by kernel_rfl) (by kernel_rfl) (by kernel_rfl) (some 64) rfl (Or.inl ⟨by rfl, ?_⟩) (fun _ _ _ h => h) (by assumption) ?_
  rotate_left
  · intro w hSw; (try dsimp only at hSw); go_simp; (try with_reducible rfl)
  simp only [Act.put, List.setIfInBounds_toArray, List.set_cons_zero, List.set_cons_succ]
  refine takeR (i := 15) (v := ?_) rfl (by kernel_rfl) (by kernel_rfl) (by kernel_rfl) (some 65) rfl (Or.inl ⟨by rfl, ?_⟩) (fun _ _ _ h => h) (by assumption) ?_
  rotate_left
  · intro w hSw; (try dsimp only at hSw); go_simp; (try with_reducible rfl)
  simp only [Act.put, List.setIfInBounds_toArray, List.set_cons_zero, List.set_cons_succ]
  refine takeL Try.underlying28 (i := 16) rfl (by kernel_rfl) (by kernel_rfl) (by kernel_rfl) (some 66) rfl (.tmp 3) rfl (by rfl) w.heap.size rfl (tdc l) (szC hll.out) (fun w h => h.1) (fun _ _ _ h => h) (by assumption) ?_
  simp only [Act.put, List.setIfInBounds_toArray, List.set_cons_zero, List.set_cons_succ]
  refine takeL Try.underlying28 (i := 18) rfl (by kernel_rfl) (by kernel_rfl) (by kernel_rfl) (some 68) rfl (.tmp 3) rfl (by rfl) w.heap.size rfl (tdc l) (szC hll.out) (fun w h => h.1) (fun _ _ _ h => h) (by assumption) ?_
  simp only [Act.put, List.setIfInBounds_toArray, List.set_cons_zero, List.set_cons_succ]
  refine wpAnyH_ready (rs := [17]) (by kernel_rfl) (by simp) (AllReadyH.cons rfl (fun K hK => ?_) AllReadyH.nil)
  go_simp
  refine (q11.out _).mono ?_
  rintro e w9 ⟨rfl, b9⟩
  refine hK.out _ _ (keepQ5 b9 hHeld) (fun hHeld => ?_)
  clear hK K
  try simp only [Act.put, List.setIfInBounds_toArray, List.set_cons_zero, List.set_cons_succ]
  refine wpAnyH_ready (rs := [19]) (by kernel_rfl) (by simp) (AllReadyH.cons rfl (fun K hK => ?_) AllReadyH.nil)
  go_simp
  refine (q12.out _).mono ?_
  rintro e w9 ⟨rfl, b9⟩
  refine hK.out _ _ (keepQ5 b9 hHeld) (fun hHeld => ?_)
  clear hK K
  try simp only [Act.put, List.setIfInBounds_toArray, List.set_cons_zero, List.set_cons_succ]
  refine takeR (i := 20) (v := ?_) rfl (by kernel_rfl) (by kernel_rfl) (by kernel_rfl) (some 70) rfl (Or.inl ⟨by rfl, ?_⟩) (fun _ _ _ h => h) (by assumption) ?_
  rotate_left
  · intro w hSw; (try dsimp only at hSw); go_simp; (try with_reducible rfl)
  simp only [Act.put, List.setIfInBounds_toArray, List.set_cons_zero, List.set_cons_succ]
  refine takeR (i := 21) (v := ?_) rfl (by kernel_rfl) (by kernel_rfl) (by kernel_rfl) (some 71) rfl (Or.inl ⟨by rfl, ?_⟩) (fun _ _ _ h => h) (by assumption) ?_
  rotate_left
  · intro w hSw; (try dsimp only at hSw); go_simp; (try with_reducible rfl)
  simp only [Act.put, List.setIfInBounds_toArray, List.set_cons_zero, List.set_cons_succ]
  refine takeR (i := 22) (v := ?_) rfl (by kernel_rfl) (by kernel_rfl) (by kernel_rfl) (some 11) rfl (Or.inl ⟨by rfl, ?_⟩) (fun _ _ _ h => h) (by assumption) ?_
  rotate_left
  · intro w hSw; (try dsimp only at hSw); go_simp; (try with_reducible rfl)
  simp only [Act.put, List.setIfInBounds_toArray, List.set_cons_zero, List.set_cons_succ]
  refine wpAnyH_done (by kernel_rfl) ?_ _
  have bel := hHeld.2.2.2.2.2
  obtain ⟨U1, U2, U3, U4, U5, -⟩ := hHeld
  have BV := hide_ (BV.out.trans (bel.mono BV.out.size))
  clear bel S1 S2 S3 S4 S5 b9
  go_wp2_with fail
  try simp only [Act.put]
  generalize w9 = Vb at *
  refine wp_region_held_drew (S := fun w' => w'.rangeAt w.heap.size 0 (tdc l) ∧ w'.rangeAt (w.heap.size + 1) 0 (tdc m) ∧ w'.rangeAt (w.heap.size + 1 + 1) 0 (wdc v) ∧ w'.rangeAt n1 0 (tdc M) ∧ w'.rangeAt n2 0 (tdc M) ∧ Below Vb.heap.size Vb w') (by kernel_rfl) (keepQ5 (Below.refl _ _).drew ⟨U1, U2, U3, U4, U5, Below.refl _ _⟩) (fun hHeld => ?_)
  refine takeR (i := 0) (v := ?_) rfl (by kernel_rfl) (by kernel_rfl) (by kernel_rfl) (some 72) rfl (Or.inl ⟨by rfl, ?_⟩) (fun _ _ _ h => h) (by assumption) ?_
  rotate_left
  · intro w hSw; (try dsimp only at hSw); go_simp; (try with_reducible rfl)
  simp only [Act.put, List.setIfInBounds_toArray, List.set_cons_zero, List.set_cons_succ]
  refine takeR (i := 1) (v := ?_) rfl (by kernel_rfl) (by kernel_rfl) (by kernel_rfl) (some 73) rfl (Or.inl ⟨by rfl, ?_⟩) (fun _ _ _ h => h) (by assumption) ?_
  rotate_left
  · intro w hSw; (try dsimp only at hSw); go_simp; (try with_reducible rfl)
  simp only [Act.put, List.setIfInBounds_toArray, List.set_cons_zero, List.set_cons_succ]
  refine takeL Try.underlying30 (i := 2) rfl (by kernel_rfl) (by kernel_rfl) (by kernel_rfl) (some 74) rfl (.tmp 5) rfl (by rfl) (w.heap.size + 1 + 1) rfl (wdc v) (szW hlv.out) (fun w h => h.2.2.1) (fun _ _ _ h => h) (by assumption) ?_
  simp only [Act.put, List.setIfInBounds_toArray, List.set_cons_zero, List.set_cons_succ]
  refine takeL Try.underlying30 (i := 4) rfl (by kernel_rfl) (by kernel_rfl) (by kernel_rfl) (some 76) rfl (.tmp 5) rfl (by rfl) (w.heap.size + 1 + 1) rfl (wdc v) (szW hlv.out) (fun w h => h.2.2.1) (fun _ _ _ h => h) (by assumption) ?_
  simp only [Act.put, List.setIfInBounds_toArray, List.set_cons_zero, List.set_cons_succ]
  refine wpAnyH_ready (rs := [3]) (by kernel_rfl) (by simp) (AllReadyH.cons rfl (fun K hK => ?_) AllReadyH.nil)
  go_simp
  refine (q13.out _).mono ?_
  rintro e w9 ⟨rfl, b9⟩
  refine hK.out _ _ (keepQ5 b9 hHeld) (fun hHeld => ?_)
  clear hK K
  try simp only [Act.put, List.setIfInBounds_toArray, List.set_cons_zero, List.set_cons_succ]
  refine wpAnyH_ready (rs := [5]) (by kernel_rfl) (by simp) (AllReadyH.cons rfl (fun K hK => ?_) AllReadyH.nil)
  go_simp
  refine (q14.out _).mono ?_
  rintro e w9 ⟨rfl, b9⟩
  refine hK.out _ _ (keepQ5 b9 hHeld) (fun hHeld => ?_)
  clear hK K
  try simp only [Act.put, List.setIfInBounds_toArray, List.set_cons_zero, List.set_cons_succ]
  refine takeR (i := 6) (v := ?_) rfl (by kernel_rfl) (by kernel_rfl) (by kernel_rfl) (some 78) rfl (Or.inl ⟨by rfl, ?_⟩) (fun _ _ _ h => h) (by assumption) ?_
  rotate_left
  · intro w hSw; (try dsimp only at hSw); go_simp; (try with_reducible rfl)
  simp only [Act.put, List.setIfInBounds_toArray, List.set_cons_zero, List.set_cons_succ]
  refine takeR (i := 7) (v := ?_) rfl (by kernel_rfl) (by kernel_rfl) (by kernel_rfl) (some 79) rfl (Or.inl ⟨by rfl, ?_⟩) (fun _ _ _ h => h) (by assumption) ?_
  rotate_left
  · intro w hSw; (try dsimp only at hSw); go_simp; (try with_reducible rfl)
  simp only [Act.put, List.setIfInBounds_toArray, List.set_cons_zero, List.set_cons_succ]
  refine takeR (i := 8) (v := ?_) rfl (by kernel_rfl) (by kernel_rfl) (by kernel_rfl) (some 80) rfl (Or.inl ⟨by rfl, ?_⟩) (fun _ _ _ h => h) (by assumption) ?_
  rotate_left
  · intro w hSw; (try dsimp only at hSw); go_simp; (try with_reducible rfl)
  simp only [Act.put, List.setIfInBounds_toArray, List.set_cons_zero, List.set_cons_succ]
  refine wpAnyH_ready (rs := [9]) (by kernel_rfl) (by simp) (AllReadyH.cons rfl (fun K hK => ?_) AllReadyH.nil)
  go_simp
  refine (q15.out _).mono ?_
  rintro e w9 ⟨rfl, b9⟩
  refine hK.out _ _ (keepQ5 b9 hHeld) (fun hHeld => ?_)
  clear hK K
  try simp only [Act.put, List.setIfInBounds_toArray, List.set_cons_zero, List.set_cons_succ]
  refine wpAnyH_ready (rs := [10]) (by kernel_rfl) (by simp) (AllReadyH.cons rfl (fun K hK => ?_) AllReadyH.nil)
  go_simp
  refine (q16.out _).mono ?_
  rintro e w9 ⟨rfl, b9⟩
  refine hK.out _ _ (keepQ5 b9 hHeld) (fun hHeld => ?_)
  clear hK K
  try simp only [Act.put, List.setIfInBounds_toArray, List.set_cons_zero, List.set_cons_succ]
  refine takeR (i := 11) (v := ?_) rfl (by kernel_rfl) (by kernel_rfl) (by kernel_rfl) (some 83) rfl (Or.inl ⟨by rfl, ?_⟩) (fun _ _ _ h => h) (by assumption) ?_
  rotate_left
  · intro w hSw; (try dsimp only at hSw); go_simp; (try with_reducible rfl)
  simp only [Act.put, List.setIfInBounds_toArray, List.set_cons_zero, List.set_cons_succ]
  refine takeR (i := 12) (v := ?_) rfl (by kernel_rfl) (by kernel_rfl) (by kernel_rfl) (some 84) rfl (Or.inl ⟨by rfl, ?_⟩) (fun _ _ _ h => h) (by assumption) ?_
  rotate_left
  · intro w hSw; (try dsimp only at hSw); go_simp; (try with_reducible rfl)
  simp only [Act.put, List.setIfInBounds_toArray, List.set_cons_zero, List.set_cons_succ]
  refine takeR (i := 13) (v := ?_) rfl (by kernel_rfl) (by kernel_rfl) (by kernel_rfl) (some 85) rfl (Or.inl ⟨by rfl, ?_⟩) (fun _ _ _ h => h) (by assumption) ?_
  rotate_left
  · intro w hSw; (try dsimp only at hSw); go_simp; (try with_reducible rfl)
  simp only [Act.put, List.setIfInBounds_toArray, List.set_cons_zero, List.set_cons_succ]
  refine wpAnyH_ready (rs := [14]) (by kernel_rfl) (by simp) (AllReadyH.cons rfl (fun K hK => ?_) AllReadyH.nil)
  go_simp
  refine (awake6_any _).mono ?_
  rintro e w9 ⟨rfl, b9⟩
  refine hK.out _ _ (keepQ5 b9 hHeld) (fun hHeld => ?_)
  clear hK K
  try simp only [Act.put, List.setIfInBounds_toArray, List.set_cons_zero, List.set_cons_succ]
  refine takeR (i := 15) (v := ?_) rfl (by kernel_rfl) (by kernel_rfl) (by kernel_rfl) (some 87) rfl (Or.inl ⟨by rfl, ?_⟩) (fun _ _ _ h => h) (by assumption) ?_
  rotate_left
  · intro w hSw; (try dsimp only at hSw); go_simp; (try with_reducible rfl)
  simp only [Act.put, List.setIfInBounds_toArray, List.set_cons_zero, List.set_cons_succ]
  refine takeR (i := 16) (v := ?_) rfl (by kernel_rfl) (by kernel_rfl) (by kernel_rfl) (some 6) rfl (Or.inl ⟨by rfl, ?_⟩) (fun _ _ _ h => h) (by assumption) ?_
  rotate_left
  · intro w hSw; (try dsimp only at hSw); go_simp; (try with_reducible rfl)
  simp only [Act.put, List.setIfInBounds_toArray, List.set_cons_zero, List.set_cons_succ]
  refine wpAnyH_done (by kernel_rfl) ?_ _
  have bel := hHeld.2.2.2.2.2
  clear hHeld
  go_wp2_with fail
  go_ret
  exact ⟨rfl, BV.out.trans (bel.mono BV.out.size)⟩

end Go.Proofs.Ytickphnfgaibiaa
