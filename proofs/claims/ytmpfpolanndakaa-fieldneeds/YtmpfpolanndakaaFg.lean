import Derived.Test.YtmpfpolanndakaaFf
namespace Go.Proofs.Ytmpfpolanndakaa
open Go Go.RowKit
set_option linter.unusedVariables false
set_option linter.unusedSimpArgs false

set_option maxRecDepth 100000 in
set_option maxHeartbeats 2000000 in
theorem needs_6 (w : World) :
    Calls Try.prog 24 #[.int .i64 6] w fun e w' => ∃ u, e = .returned u ∧ NeedsAt w' u (nd 6) ∧ Below w.heap.size w w' := by
  go_enter Try.func24, Try.ntmps24
  go_wp2_with (go_at_call_of 47 (Value.slice (some ⟨w.heap.size, 0, none⟩) 2 2); refine (need_new 4 [2048, 34525] _ _ _ _ _ (by rfl) (by rfl) (by rfl) (by rfl) (by decide)).mono ?_; rintro e w1 ⟨ua, uc, rfl, ho1, hb1⟩)
  go_wp2_with (go_at_call 47; refine (need_nil 5 _).mono ?_; rintro e w2 ⟨ub, ud, rfl, ho2, hb2⟩)
  go_ret
  refine ⟨_, rfl, NeedsAt.one w2 5 [] ub ud _ rfl ho2, ?_⟩
  have s1 := hb1.size
  have s2 := hb2.size
  simp at s2
  exact ((hb1.alloc s1 _).trans (hb2.mono (by simp; omega))).alloc (by omega) _

set_option maxRecDepth 100000 in
set_option maxHeartbeats 2000000 in
theorem needs_7 (w : World) :
    Calls Try.prog 24 #[.int .i64 7] w fun e w' => ∃ u, e = .returned u ∧ NeedsAt w' u (nd 7) ∧ Below w.heap.size w w' := by
  go_enter Try.func24, Try.ntmps24
  go_wp2_with (go_at_call_of 47 (Value.slice (some ⟨w.heap.size, 0, none⟩) 2 2); refine (need_new 4 [2048, 34525] _ _ _ _ _ (by rfl) (by rfl) (by rfl) (by rfl) (by decide)).mono ?_; rintro e w1 ⟨ua, uc, rfl, ho1, hb1⟩)
  go_ret
  refine ⟨_, rfl, NeedsAt.one _ 4 [2048, 34525] ua uc _ (by simp) (ho1.later (by go_grown)), ?_⟩
  have s1 := hb1.size
  exact (hb1.alloc s1 _).alloc (by simp; omega) _

set_option maxRecDepth 100000 in
set_option maxHeartbeats 2000000 in
theorem needs_8 (w : World) :
    Calls Try.prog 24 #[.int .i64 8] w fun e w' => ∃ u, e = .returned u ∧ NeedsAt w' u (nd 8) ∧ Below w.heap.size w w' := by
  go_enter Try.func24, Try.ntmps24
  go_wp2_with (go_at_call_of 47 (Value.slice (some ⟨w.heap.size, 0, none⟩) 2 2); refine (need_new 4 [2048, 34525] _ _ _ _ _ (by rfl) (by rfl) (by rfl) (by rfl) (by decide)).mono ?_; rintro e w1 ⟨ua, uc, rfl, ho1, hb1⟩)
  go_ret
  refine ⟨_, rfl, NeedsAt.one _ 4 [2048, 34525] ua uc _ (by simp) (ho1.later (by go_grown)), ?_⟩
  have s1 := hb1.size
  exact (hb1.alloc s1 _).alloc (by simp; omega) _

set_option maxRecDepth 100000 in
set_option maxHeartbeats 2000000 in
theorem needs_9 (w : World) :
    Calls Try.prog 24 #[.int .i64 9] w fun e w' => ∃ u, e = .returned u ∧ NeedsAt w' u (nd 9) ∧ Below w.heap.size w w' := by
  go_enter Try.func24, Try.ntmps24
  go_wp2_with (go_at_call_of 47 (Value.slice (some ⟨w.heap.size, 0, none⟩) 2 2); refine (need_new 4 [2048, 34525] _ _ _ _ _ (by rfl) (by rfl) (by rfl) (by rfl) (by decide)).mono ?_; rintro e w1 ⟨ua, uc, rfl, ho1, hb1⟩)
  go_ret
  refine ⟨_, rfl, NeedsAt.one _ 4 [2048, 34525] ua uc _ (by simp) (ho1.later (by go_grown)), ?_⟩
  have s1 := hb1.size
  exact (hb1.alloc s1 _).alloc (by simp; omega) _

set_option maxRecDepth 100000 in
set_option maxHeartbeats 2000000 in
theorem needs_10 (w : World) :
    Calls Try.prog 24 #[.int .i64 10] w fun e w' => ∃ u, e = .returned u ∧ NeedsAt w' u (nd 10) ∧ Below w.heap.size w w' := by
  go_enter Try.func24, Try.ntmps24
  go_wp2_with (go_at_call_of 47 (Value.slice (some ⟨w.heap.size, 0, none⟩) 2 2); refine (need_new 4 [2048, 34525] _ _ _ _ _ (by rfl) (by rfl) (by rfl) (by rfl) (by decide)).mono ?_; rintro e w1 ⟨ua, uc, rfl, ho1, hb1⟩)
  go_wp2_with (go_at_call 47; refine (need_new 4 [2048] _ _ _ _ _ (by rfl) (by rfl) (by simp) (by rfl) (by decide)).mono ?_; rintro e w2 ⟨ub, ud, rfl, ho2, hb2⟩)
  go_ret
  refine ⟨_, rfl, NeedsAt.one w2 4 [2048] ub ud _ rfl ho2, ?_⟩
  have s1 := hb1.size
  have s2 := hb2.size
  simp at s2
  exact ((hb1.alloc s1 _).trans (hb2.mono (by simp; omega))).alloc (by omega) _

set_option maxRecDepth 100000 in
set_option maxHeartbeats 2000000 in
theorem needs_11 (w : World) :
    Calls Try.prog 24 #[.int .i64 11] w fun e w' => ∃ u, e = .returned u ∧ NeedsAt w' u (nd 11) ∧ Below w.heap.size w w' := by
  go_enter Try.func24, Try.ntmps24
  go_wp2_with (go_at_call_of 47 (Value.slice (some ⟨w.heap.size, 0, none⟩) 2 2); refine (need_new 4 [2048, 34525] _ _ _ _ _ (by rfl) (by rfl) (by rfl) (by rfl) (by decide)).mono ?_; rintro e w1 ⟨ua, uc, rfl, ho1, hb1⟩)
  go_wp2_with (go_at_call 47; refine (need_new 4 [2048] _ _ _ _ _ (by rfl) (by rfl) (by simp) (by rfl) (by decide)).mono ?_; rintro e w2 ⟨ub, ud, rfl, ho2, hb2⟩)
  go_ret
  refine ⟨_, rfl, NeedsAt.one w2 4 [2048] ub ud _ rfl ho2, ?_⟩
  have s1 := hb1.size
  have s2 := hb2.size
  simp at s2
  exact ((hb1.alloc s1 _).trans (hb2.mono (by simp; omega))).alloc (by omega) _

set_option maxRecDepth 100000 in
set_option maxHeartbeats 2000000 in
theorem needs_12 (w : World) :
    Calls Try.prog 24 #[.int .i64 12] w fun e w' => ∃ u, e = .returned u ∧ NeedsAt w' u (nd 12) ∧ Below w.heap.size w w' := by
  go_enter Try.func24, Try.ntmps24
  go_wp2_with (go_at_call 47; refine (need_new 4 [2048, 34525] _ _ _ _ _ rfl rfl rfl rfl (by decide)).mono ?_; rintro e w1 ⟨ua, uc, rfl, ho1, hb1⟩)
  have HO1 := hide_ ho1
  clear ho1
  have P1 : Hid (Pair (w1.alloc (.cells #[.int .i64 4, .slice ua 2 uc] 31)) w1.heap.size (.int .i64 4) (.slice ua 2 uc)) := ⟨by simp [go_sem], by simp [go_sem], by simp [go_sem], by simp [go_sem]⟩
  have HB1 : Hid (Below w.heap.size w (w1.alloc (.cells #[.int .i64 4, .slice ua 2 uc] 31))) := hb1.alloc hb1.size _
  have hsz := hb1.size
  have HO2 : Hid (Cells (w1.alloc (.cells #[.int .i64 4, .slice ua 2 uc] 31)) (.slice ua 2 uc) 2 2 (wdc (lo [2048, 34525]))) := HO1.out.later (by go_grown)
  obtain ⟨c0, c1, c2, c3⟩ := P1.out
  generalize hW : w1.alloc (.cells #[.int .i64 4, .slice ua 2 uc] 31) = W at *
  have hWs : W.heap.size = w1.heap.size + 1 := by rw [← hW]; simp
  have HW := hide_ hWs
  clear hW HO1 hWs
  go_region_held3 (fun w' => w'.cell? ⟨w1.heap.size, 0, none⟩ = some (.int .i64 4) ∧ w'.cell? ⟨w1.heap.size, 1, none⟩ = some (.slice ua 2 uc) ∧ Below W.heap.size W w')
    (first | (exact keepK (by assumption) (by assumption)) | (exact keepA (by assumption)) | (exact keepW c0 c1 (by go_grown)))
    (first | (go_at_call 47; refine (need_any 9 _ [6] _ (by first | exact Cells.fresh _ (u64s [6]) 37 _ 1 1 (by simp) rfl (by decide) | exact (Cells.fresh _ (u64s [6]) 37 _ 1 1 (by simp) rfl (by decide)).later (Below.refl _ _).drew) (by decide)).mono ?_; rintro e w2 ⟨u, rfl, ho2, hb2⟩; obtain ⟨ub, ud, rfl⟩ := own_slice ho2; have hbw := (by go_grown : Below W.heap.size W _).trans (hb2.mono (by simp))))
  rename_i hH
  all_goals
    go_wp2
    go_ret
    refine ⟨_, rfl, NeedsAt.two w2 4 9 [2048, 34525] [6] ua ub uc ud _ rfl (HO2.out.later hbw) (Cells.ofOwn ho2), HB1.out.trans (hH.2.2.mono HB1.out.size)⟩


set_option maxRecDepth 100000 in
set_option maxHeartbeats 2000000 in
theorem needs_13 (w : World) :
    Calls Try.prog 24 #[.int .i64 13] w fun e w' => ∃ u, e = .returned u ∧ NeedsAt w' u (nd 13) ∧ Below w.heap.size w w' := by
  go_enter Try.func24, Try.ntmps24
  go_wp2_with (go_at_call 47; refine (need_new 4 [2048, 34525] _ _ _ _ _ rfl rfl rfl rfl (by decide)).mono ?_; rintro e w1 ⟨ua, uc, rfl, ho1, hb1⟩)
  have HO1 := hide_ ho1
  clear ho1
  have P1 : Hid (Pair (w1.alloc (.cells #[.int .i64 4, .slice ua 2 uc] 31)) w1.heap.size (.int .i64 4) (.slice ua 2 uc)) := ⟨by simp [go_sem], by simp [go_sem], by simp [go_sem], by simp [go_sem]⟩
  have HB1 : Hid (Below w.heap.size w (w1.alloc (.cells #[.int .i64 4, .slice ua 2 uc] 31))) := hb1.alloc hb1.size _
  have hsz := hb1.size
  have HO2 : Hid (Cells (w1.alloc (.cells #[.int .i64 4, .slice ua 2 uc] 31)) (.slice ua 2 uc) 2 2 (wdc (lo [2048, 34525]))) := HO1.out.later (by go_grown)
  obtain ⟨c0, c1, c2, c3⟩ := P1.out
  generalize hW : w1.alloc (.cells #[.int .i64 4, .slice ua 2 uc] 31) = W at *
  have hWs : W.heap.size = w1.heap.size + 1 := by rw [← hW]; simp
  have HW := hide_ hWs
  clear hW HO1 hWs
  go_region_held3 (fun w' => w'.cell? ⟨w1.heap.size, 0, none⟩ = some (.int .i64 4) ∧ w'.cell? ⟨w1.heap.size, 1, none⟩ = some (.slice ua 2 uc) ∧ Below W.heap.size W w')
    (first | (exact keepK (by assumption) (by assumption)) | (exact keepA (by assumption)) | (exact keepW c0 c1 (by go_grown)))
    (first | (go_at_call 47; refine (need_any 9 _ [6] _ (by first | exact Cells.fresh _ (u64s [6]) 37 _ 1 1 (by simp) rfl (by decide) | exact (Cells.fresh _ (u64s [6]) 37 _ 1 1 (by simp) rfl (by decide)).later (Below.refl _ _).drew) (by decide)).mono ?_; rintro e w2 ⟨u, rfl, ho2, hb2⟩; obtain ⟨ub, ud, rfl⟩ := own_slice ho2; have hbw := (by go_grown : Below W.heap.size W _).trans (hb2.mono (by simp))))
  rename_i hH
  all_goals
    go_wp2
    go_ret
    refine ⟨_, rfl, NeedsAt.two w2 4 9 [2048, 34525] [6] ua ub uc ud _ rfl (HO2.out.later hbw) (Cells.ofOwn ho2), HB1.out.trans (hH.2.2.mono HB1.out.size)⟩


set_option maxRecDepth 100000 in
set_option maxHeartbeats 2000000 in
theorem needs_14 (w : World) :
    Calls Try.prog 24 #[.int .i64 14] w fun e w' => ∃ u, e = .returned u ∧ NeedsAt w' u (nd 14) ∧ Below w.heap.size w w' := by
  go_enter Try.func24, Try.ntmps24
  go_wp2_with (go_at_call 47; refine (need_new 4 [2048, 34525] _ _ _ _ _ rfl rfl rfl rfl (by decide)).mono ?_; rintro e w1 ⟨ua, uc, rfl, ho1, hb1⟩)
  have HO1 := hide_ ho1
  clear ho1
  have P1 : Hid (Pair (w1.alloc (.cells #[.int .i64 4, .slice ua 2 uc] 31)) w1.heap.size (.int .i64 4) (.slice ua 2 uc)) := ⟨by simp [go_sem], by simp [go_sem], by simp [go_sem], by simp [go_sem]⟩
  have HB1 : Hid (Below w.heap.size w (w1.alloc (.cells #[.int .i64 4, .slice ua 2 uc] 31))) := hb1.alloc hb1.size _
  have hsz := hb1.size
  have HO2 : Hid (Cells (w1.alloc (.cells #[.int .i64 4, .slice ua 2 uc] 31)) (.slice ua 2 uc) 2 2 (wdc (lo [2048, 34525]))) := HO1.out.later (by go_grown)
  obtain ⟨c0, c1, c2, c3⟩ := P1.out
  generalize hW : w1.alloc (.cells #[.int .i64 4, .slice ua 2 uc] 31) = W at *
  have hWs : W.heap.size = w1.heap.size + 1 := by rw [← hW]; simp
  have HW := hide_ hWs
  clear hW HO1 hWs
  go_region_held3 (fun w' => w'.cell? ⟨w1.heap.size, 0, none⟩ = some (.int .i64 4) ∧ w'.cell? ⟨w1.heap.size, 1, none⟩ = some (.slice ua 2 uc) ∧ Below W.heap.size W w')
    (first | (exact keepK (by assumption) (by assumption)) | (exact keepA (by assumption)) | (exact keepW c0 c1 (by go_grown)))
    (first | (go_at_call 47; refine (need_any 9 _ [17] _ (by first | exact Cells.fresh _ (u64s [17]) 37 _ 1 1 (by simp) rfl (by decide) | exact (Cells.fresh _ (u64s [17]) 37 _ 1 1 (by simp) rfl (by decide)).later (Below.refl _ _).drew) (by decide)).mono ?_; rintro e w2 ⟨u, rfl, ho2, hb2⟩; obtain ⟨ub, ud, rfl⟩ := own_slice ho2; have hbw := (by go_grown : Below W.heap.size W _).trans (hb2.mono (by simp))))
  rename_i hH
  all_goals
    go_wp2
    go_ret
    refine ⟨_, rfl, NeedsAt.two w2 4 9 [2048, 34525] [17] ua ub uc ud _ rfl (HO2.out.later hbw) (Cells.ofOwn ho2), HB1.out.trans (hH.2.2.mono HB1.out.size)⟩


set_option maxRecDepth 100000 in
set_option maxHeartbeats 2000000 in
theorem needs_15 (w : World) :
    Calls Try.prog 24 #[.int .i64 15] w fun e w' => ∃ u, e = .returned u ∧ NeedsAt w' u (nd 15) ∧ Below w.heap.size w w' := by
  go_enter Try.func24, Try.ntmps24
  go_wp2_with (go_at_call 47; refine (need_new 4 [2048, 34525] _ _ _ _ _ rfl rfl rfl rfl (by decide)).mono ?_; rintro e w1 ⟨ua, uc, rfl, ho1, hb1⟩)
  have HO1 := hide_ ho1
  clear ho1
  have P1 : Hid (Pair (w1.alloc (.cells #[.int .i64 4, .slice ua 2 uc] 31)) w1.heap.size (.int .i64 4) (.slice ua 2 uc)) := ⟨by simp [go_sem], by simp [go_sem], by simp [go_sem], by simp [go_sem]⟩
  have HB1 : Hid (Below w.heap.size w (w1.alloc (.cells #[.int .i64 4, .slice ua 2 uc] 31))) := hb1.alloc hb1.size _
  have hsz := hb1.size
  have HO2 : Hid (Cells (w1.alloc (.cells #[.int .i64 4, .slice ua 2 uc] 31)) (.slice ua 2 uc) 2 2 (wdc (lo [2048, 34525]))) := HO1.out.later (by go_grown)
  obtain ⟨c0, c1, c2, c3⟩ := P1.out
  generalize hW : w1.alloc (.cells #[.int .i64 4, .slice ua 2 uc] 31) = W at *
  have hWs : W.heap.size = w1.heap.size + 1 := by rw [← hW]; simp
  have HW := hide_ hWs
  clear hW HO1 hWs
  go_region_held3 (fun w' => w'.cell? ⟨w1.heap.size, 0, none⟩ = some (.int .i64 4) ∧ w'.cell? ⟨w1.heap.size, 1, none⟩ = some (.slice ua 2 uc) ∧ Below W.heap.size W w')
    (first | (exact keepK (by assumption) (by assumption)) | (exact keepA (by assumption)) | (exact keepW c0 c1 (by go_grown)))
    (first | (go_at_call 47; refine (need_any 9 _ [17] _ (by first | exact Cells.fresh _ (u64s [17]) 37 _ 1 1 (by simp) rfl (by decide) | exact (Cells.fresh _ (u64s [17]) 37 _ 1 1 (by simp) rfl (by decide)).later (Below.refl _ _).drew) (by decide)).mono ?_; rintro e w2 ⟨u, rfl, ho2, hb2⟩; obtain ⟨ub, ud, rfl⟩ := own_slice ho2; have hbw := (by go_grown : Below W.heap.size W _).trans (hb2.mono (by simp))))
  rename_i hH
  all_goals
    go_wp2
    go_ret
    refine ⟨_, rfl, NeedsAt.two w2 4 9 [2048, 34525] [17] ua ub uc ud _ rfl (HO2.out.later hbw) (Cells.ofOwn ho2), HB1.out.trans (hH.2.2.mono HB1.out.size)⟩


set_option maxRecDepth 100000 in
set_option maxHeartbeats 2000000 in
theorem needs_16 (w : World) :
    Calls Try.prog 24 #[.int .i64 16] w fun e w' => ∃ u, e = .returned u ∧ NeedsAt w' u (nd 16) ∧ Below w.heap.size w w' := by
  go_enter Try.func24, Try.ntmps24
  go_wp2_with (go_at_call_of 47 (Value.slice (some ⟨w.heap.size, 0, none⟩) 2 2); refine (need_new 4 [2048, 34525] _ _ _ _ _ (by rfl) (by rfl) (by rfl) (by rfl) (by decide)).mono ?_; rintro e w1 ⟨ua, uc, rfl, ho1, hb1⟩)
  go_wp2_with (first | (go_at_call_of 47 (Value.int .i64 4); refine (need_new 4 [2048] _ _ _ _ _ (by rfl) (by rfl) (by simp) (by rfl) (by decide)).mono ?_; rintro e w2 ⟨ub, ud, rfl, ho2, hb2⟩) | (go_at_call_of 47 (Value.int .i64 9); refine (need_new 9 [1] _ _ _ _ _ (by rfl) (by rfl) (by rfl) (by rfl) (by decide)).mono ?_; rintro e w3 ⟨ue, uf, rfl, ho3, hb3⟩))
  go_ret
  refine ⟨_, rfl, NeedsAt.two w3 4 9 [2048] [1] ub ue ud uf _ rfl (ho2.later hb3) ho3, ?_⟩
  have s1 := hb1.size
  have s2 := hb2.size
  have s3 := hb3.size
  simp at s2
  exact (((hb1.alloc s1 _).trans (hb2.mono (by simp; omega))).trans (hb3.mono (by omega))).alloc (by omega) _

set_option maxRecDepth 100000 in
set_option maxHeartbeats 2000000 in
theorem needs_17 (w : World) :
    Calls Try.prog 24 #[.int .i64 17] w fun e w' => ∃ u, e = .returned u ∧ NeedsAt w' u (nd 17) ∧ Below w.heap.size w w' := by
  go_enter Try.func24, Try.ntmps24
  go_wp2_with (go_at_call_of 47 (Value.slice (some ⟨w.heap.size, 0, none⟩) 2 2); refine (need_new 4 [2048, 34525] _ _ _ _ _ (by rfl) (by rfl) (by rfl) (by rfl) (by decide)).mono ?_; rintro e w1 ⟨ua, uc, rfl, ho1, hb1⟩)
  go_wp2_with (first | (go_at_call_of 47 (Value.int .i64 4); refine (need_new 4 [2048] _ _ _ _ _ (by rfl) (by rfl) (by simp) (by rfl) (by decide)).mono ?_; rintro e w2 ⟨ub, ud, rfl, ho2, hb2⟩) | (go_at_call_of 47 (Value.int .i64 9); refine (need_new 9 [1] _ _ _ _ _ (by rfl) (by rfl) (by rfl) (by rfl) (by decide)).mono ?_; rintro e w3 ⟨ue, uf, rfl, ho3, hb3⟩))
  go_ret
  refine ⟨_, rfl, NeedsAt.two w3 4 9 [2048] [1] ub ue ud uf _ rfl (ho2.later hb3) ho3, ?_⟩
  have s1 := hb1.size
  have s2 := hb2.size
  have s3 := hb3.size
  simp at s2
  exact (((hb1.alloc s1 _).trans (hb2.mono (by simp; omega))).trans (hb3.mono (by omega))).alloc (by omega) _

set_option maxRecDepth 100000 in
set_option maxHeartbeats 2000000 in
theorem needs_18 (w : World) :
    Calls Try.prog 24 #[.int .i64 18] w fun e w' => ∃ u, e = .returned u ∧ NeedsAt w' u (nd 18) ∧ Below w.heap.size w w' := by
  go_enter Try.func24, Try.ntmps24
  go_wp2_with (go_at_call_of 47 (Value.slice (some ⟨w.heap.size, 0, none⟩) 2 2); refine (need_new 4 [2048, 34525] _ _ _ _ _ (by rfl) (by rfl) (by rfl) (by rfl) (by decide)).mono ?_; rintro e w1 ⟨ua, uc, rfl, ho1, hb1⟩)
  go_wp2_with (go_at_call 47; refine (need_new 4 [2054] _ _ _ _ _ (by rfl) (by rfl) (by simp) (by rfl) (by decide)).mono ?_; rintro e w2 ⟨ub, ud, rfl, ho2, hb2⟩)
  go_ret
  refine ⟨_, rfl, NeedsAt.one w2 4 [2054] ub ud _ rfl ho2, ?_⟩
  have s1 := hb1.size
  have s2 := hb2.size
  simp at s2
  exact ((hb1.alloc s1 _).trans (hb2.mono (by simp; omega))).alloc (by omega) _

set_option maxRecDepth 100000 in
set_option maxHeartbeats 2000000 in
theorem needs_19 (w : World) :
    Calls Try.prog 24 #[.int .i64 19] w fun e w' => ∃ u, e = .returned u ∧ NeedsAt w' u (nd 19) ∧ Below w.heap.size w w' := by
  go_enter Try.func24, Try.ntmps24
  go_wp2_with (go_at_call_of 47 (Value.slice (some ⟨w.heap.size, 0, none⟩) 2 2); refine (need_new 4 [2048, 34525] _ _ _ _ _ (by rfl) (by rfl) (by rfl) (by rfl) (by decide)).mono ?_; rintro e w1 ⟨ua, uc, rfl, ho1, hb1⟩)
  go_wp2_with (go_at_call 47; refine (need_new 4 [2054] _ _ _ _ _ (by rfl) (by rfl) (by simp) (by rfl) (by decide)).mono ?_; rintro e w2 ⟨ub, ud, rfl, ho2, hb2⟩)
  go_ret
  refine ⟨_, rfl, NeedsAt.one w2 4 [2054] ub ud _ rfl ho2, ?_⟩
  have s1 := hb1.size
  have s2 := hb2.size
  simp at s2
  exact ((hb1.alloc s1 _).trans (hb2.mono (by simp; omega))).alloc (by omega) _

set_option maxRecDepth 100000 in
set_option maxHeartbeats 2000000 in
theorem needs_20 (w : World) :
    Calls Try.prog 24 #[.int .i64 20] w fun e w' => ∃ u, e = .returned u ∧ NeedsAt w' u (nd 20) ∧ Below w.heap.size w w' := by
  go_enter Try.func24, Try.ntmps24
  go_wp2_with (go_at_call_of 47 (Value.slice (some ⟨w.heap.size, 0, none⟩) 2 2); refine (need_new 4 [2048, 34525] _ _ _ _ _ (by rfl) (by rfl) (by rfl) (by rfl) (by decide)).mono ?_; rintro e w1 ⟨ua, uc, rfl, ho1, hb1⟩)
  go_wp2_with (go_at_call 47; refine (need_new 4 [2054] _ _ _ _ _ (by rfl) (by rfl) (by simp) (by rfl) (by decide)).mono ?_; rintro e w2 ⟨ub, ud, rfl, ho2, hb2⟩)
  go_ret
  refine ⟨_, rfl, NeedsAt.one w2 4 [2054] ub ud _ rfl ho2, ?_⟩
  have s1 := hb1.size
  have s2 := hb2.size
  simp at s2
  exact ((hb1.alloc s1 _).trans (hb2.mono (by simp; omega))).alloc (by omega) _

set_option maxRecDepth 100000 in
set_option maxHeartbeats 2000000 in
theorem needs_21 (w : World) :
    Calls Try.prog 24 #[.int .i64 21] w fun e w' => ∃ u, e = .returned u ∧ NeedsAt w' u (nd 21) ∧ Below w.heap.size w w' := by
  go_enter Try.func24, Try.ntmps24
  go_wp2_with (go_at_call_of 47 (Value.slice (some ⟨w.heap.size, 0, none⟩) 2 2); refine (need_new 4 [2048, 34525] _ _ _ _ _ (by rfl) (by rfl) (by rfl) (by rfl) (by decide)).mono ?_; rintro e w1 ⟨ua, uc, rfl, ho1, hb1⟩)
  go_wp2_with (go_at_call 47; refine (need_new 4 [34525] _ _ _ _ _ (by rfl) (by rfl) (by simp) (by rfl) (by decide)).mono ?_; rintro e w2 ⟨ub, ud, rfl, ho2, hb2⟩)
  go_ret
  refine ⟨_, rfl, NeedsAt.one w2 4 [34525] ub ud _ rfl ho2, ?_⟩
  have s1 := hb1.size
  have s2 := hb2.size
  simp at s2
  exact ((hb1.alloc s1 _).trans (hb2.mono (by simp; omega))).alloc (by omega) _

set_option maxRecDepth 100000 in
set_option maxHeartbeats 2000000 in
theorem needs_22 (w : World) :
    Calls Try.prog 24 #[.int .i64 22] w fun e w' => ∃ u, e = .returned u ∧ NeedsAt w' u (nd 22) ∧ Below w.heap.size w w' := by
  go_enter Try.func24, Try.ntmps24
  go_wp2_with (go_at_call_of 47 (Value.slice (some ⟨w.heap.size, 0, none⟩) 2 2); refine (need_new 4 [2048, 34525] _ _ _ _ _ (by rfl) (by rfl) (by rfl) (by rfl) (by decide)).mono ?_; rintro e w1 ⟨ua, uc, rfl, ho1, hb1⟩)
  go_wp2_with (go_at_call 47; refine (need_new 4 [34525] _ _ _ _ _ (by rfl) (by rfl) (by simp) (by rfl) (by decide)).mono ?_; rintro e w2 ⟨ub, ud, rfl, ho2, hb2⟩)
  go_ret
  refine ⟨_, rfl, NeedsAt.one w2 4 [34525] ub ud _ rfl ho2, ?_⟩
  have s1 := hb1.size
  have s2 := hb2.size
  simp at s2
  exact ((hb1.alloc s1 _).trans (hb2.mono (by simp; omega))).alloc (by omega) _

set_option maxRecDepth 100000 in
set_option maxHeartbeats 2000000 in
theorem needs_23 (w : World) :
    Calls Try.prog 24 #[.int .i64 23] w fun e w' => ∃ u, e = .returned u ∧ NeedsAt w' u (nd 23) ∧ Below w.heap.size w w' := by
  go_enter Try.func24, Try.ntmps24
  go_wp2_with (go_at_call_of 47 (Value.slice (some ⟨w.heap.size, 0, none⟩) 2 2); refine (need_new 4 [2048, 34525] _ _ _ _ _ (by rfl) (by rfl) (by rfl) (by rfl) (by decide)).mono ?_; rintro e w1 ⟨ua, uc, rfl, ho1, hb1⟩)
  go_wp2_with (go_at_call 47; refine (need_new 4 [34887, 34888] _ _ _ _ _ (by rfl) (by rfl) (by simp) (by rfl) (by decide)).mono ?_; rintro e w2 ⟨ub, ud, rfl, ho2, hb2⟩)
  go_ret
  refine ⟨_, rfl, NeedsAt.one w2 4 [34887, 34888] ub ud _ rfl ho2, ?_⟩
  have s1 := hb1.size
  have s2 := hb2.size
  simp at s2
  exact ((hb1.alloc s1 _).trans (hb2.mono (by simp; omega))).alloc (by omega) _

theorem nd_none {f : Int} (h : ¬ (6 ≤ f ∧ f ≤ 23)) : nd f = [] := by
  unfold nd
  split <;> first | rfl | omega
set_option maxRecDepth 100000 in
set_option maxHeartbeats 2000000 in
theorem needs_no (f : Int) (w : World) (h : ¬ (6 ≤ f ∧ f ≤ 23)) :
    Calls Try.prog 24 #[.int .i64 f] w fun e w' => ∃ u, e = .returned u ∧ NeedsAt w' u (nd f) ∧ Below w.heap.size w w' := by
  rw [nd_none h]
  have g6 : (f == 6) = false := by simp; omega
  have g7 : (f == 7) = false := by simp; omega
  have g8 : (f == 8) = false := by simp; omega
  have g9 : (f == 9) = false := by simp; omega
  have g10 : (f == 10) = false := by simp; omega
  have g11 : (f == 11) = false := by simp; omega
  have g12 : (f == 12) = false := by simp; omega
  have g13 : (f == 13) = false := by simp; omega
  have g14 : (f == 14) = false := by simp; omega
  have g15 : (f == 15) = false := by simp; omega
  have g16 : (f == 16) = false := by simp; omega
  have g17 : (f == 17) = false := by simp; omega
  have g18 : (f == 18) = false := by simp; omega
  have g19 : (f == 19) = false := by simp; omega
  have g20 : (f == 20) = false := by simp; omega
  have g21 : (f == 21) = false := by simp; omega
  have g22 : (f == 22) = false := by simp; omega
  have g23 : (f == 23) = false := by simp; omega
  clear h
  go_enter Try.func24, Try.ntmps24
  go_wp2_with (go_at_call_of 47 (Value.slice (some ⟨w.heap.size, 0, none⟩) 2 2); refine (need_new 4 [2048, 34525] _ _ _ _ _ (by rfl) (by rfl) (by rfl) (by rfl) (by decide)).mono ?_; rintro e w1 ⟨ua, uc, rfl, ho1, hb1⟩)
  go_ret
  exact ⟨_, rfl, NeedsAt.nil _, hb1.alloc hb1.size _⟩

theorem needs_any (f : Int) (w : World) :
    Calls Try.prog 24 #[.int .i64 f] w fun e w' => ∃ u, e = .returned u ∧ NeedsAt w' u (nd f) ∧ Below w.heap.size w w' := by
  by_cases h : 6 ≤ f ∧ f ≤ 23
  · obtain rfl | rfl | rfl | rfl | rfl | rfl | rfl | rfl | rfl | rfl | rfl | rfl | rfl | rfl | rfl | rfl | rfl | rfl : f = 6 ∨ f = 7 ∨ f = 8 ∨ f = 9 ∨ f = 10 ∨ f = 11 ∨ f = 12 ∨ f = 13 ∨ f = 14 ∨ f = 15 ∨ f = 16 ∨ f = 17 ∨ f = 18 ∨ f = 19 ∨ f = 20 ∨ f = 21 ∨ f = 22 ∨ f = 23 := by omega
    · exact needs_6 w
    · exact needs_7 w
    · exact needs_8 w
    · exact needs_9 w
    · exact needs_10 w
    · exact needs_11 w
    · exact needs_12 w
    · exact needs_13 w
    · exact needs_14 w
    · exact needs_15 w
    · exact needs_16 w
    · exact needs_17 w
    · exact needs_18 w
    · exact needs_19 w
    · exact needs_20 w
    · exact needs_21 w
    · exact needs_22 w
    · exact needs_23 w
  · exact needs_no f w h

end Go.Proofs.Ytmpfpolanndakaa
