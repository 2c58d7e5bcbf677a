import Derived.Test.YtmpfpolanndakaaHk
namespace Go.Proofs.Ytmpfpolanndakaa
open Go Go.RowKit
set_option linter.unusedVariables false
set_option linter.unusedSimpArgs false

theorem keepS {W w' : World} {g g' g'' : Nat} {cs ds : List Value} {x y : Value} (h1 : W.rangeAt g 0 cs) (h2 : W.rangeAt g' 0 ds) (h3 : W.cell? ⟨g'', 0, none⟩ = some x) (h4 : W.cell? ⟨g'', 1, none⟩ = some y) (hb : Below W.heap.size W w') :
    w'.rangeAt g 0 cs ∧ w'.rangeAt g' 0 ds ∧ w'.cell? ⟨g'', 0, none⟩ = some x ∧ w'.cell? ⟨g'', 1, none⟩ = some y ∧ Below W.heap.size W w' :=
  ⟨range_later h1 hb, range_later h2 hb, cell_later hb h3, cell_later hb h4, hb⟩

set_option maxRecDepth 100000 in
set_option maxHeartbeats 8000000 in
theorem headerSets_any (l m : List (Nat × Nat)) (hl : isH l) (hm : isH m) (f : Int) (x y : Nat) (hx : x < 18446744073709551616) (hy : y < 18446744073709551616) (w : World) :
    Calls Try.prog 6 #[hv l, hv m, .int .i64 f, wd x y] w fun e w' => e = .returned (.bool true) ∧ Below w.heap.size w w' := by
  have q1 := fun w => hget_any l hl f w
  have q2 := fun w => rhget_any l hl f w
  have q3 := fun w => hset_any l hl f x y w
  have q4 := fun w => rhset_any l hl f x y w
  have q5 := fun w => fits_any l hl w
  have q6 := fun w => rfits_any l hl w
  have q7 := fun w => clip_any l hl w
  have q8 := fun w => rclip_any l hl w
  have q9 := fun w => diff_any l m hl hm w
  have q10 := fun w => rdiff_any l m hl hm w
  obtain ⟨⟨a, b⟩, hab⟩ : ∃ p, hget l f = p := ⟨_, rfl⟩
  rw [hab] at q1 q2
  have hsl : (hset l f (x, y)).length = 24 := by unfold hset; split <;> simp [hl.1]
  have hcl : (clip l).length = 24 := by rw [clip_len]; exact hl.1
  unfold hv wdp wd at *
  generalize hset l f (x, y) = L at *
  generalize clip l = C at *
  generalize decide (C = l) = r at *
  generalize diffK l m 24 = D at *
  have k1 : ∀ w, (Op.equalIn 10000 42 (.agg (wdc L).toArray) (.agg (wdc L).toArray)).run Try.prog w = .ok true w := fun w => by have := run_heqIn L L hsl hsl w; simpa using this
  have k2 : ∀ w, (Op.equalIn 10000 42 (.agg (wdc C).toArray) (.agg (wdc C).toArray)).run Try.prog w = .ok true w := fun w => by have := run_heqIn C C hcl hcl w; simpa using this
  have e1 : ((a : Int) == (a : Int)) = true := by simp
  have e2 : ((b : Int) == (b : Int)) = true := by simp
  have e3 : (r == r) = true := by simp
  have Q1 := hide_ q1
  have Q2 := hide_ q2
  have Q3 := hide_ q3
  have Q4 := hide_ q4
  have Q5 := hide_ q5
  have Q6 := hide_ q6
  have Q7 := hide_ q7
  have Q8 := hide_ q8
  have Q9 := hide_ q9
  have Q10 := hide_ q10
  clear q1 q2 q3 q4 q5 q6 q7 q8 q9 q10 hab
  go_enter Try.func6, Try.ntmps6
  go_wp2_with fail
  have hR : World.rangeAt (((w.alloc (.cells (wdc l).toArray 42)).alloc (.cells (wdc m).toArray 42)).alloc (.cells #[.int .u64 (x : Int), .int .u64 (y : Int)] 39)) w.heap.size 0 (wdc l) := ((HB.new w l).later (by go_grown)).range
  have hT : World.rangeAt (((w.alloc (.cells (wdc l).toArray 42)).alloc (.cells (wdc m).toArray 42)).alloc (.cells #[.int .u64 (x : Int), .int .u64 (y : Int)] 39)) (w.heap.size + 1) 0 (wdc m) := by
    have := ((HB.new (w.alloc (.cells (wdc l).toArray 42)) m).later (w' := ((w.alloc (.cells (wdc l).toArray 42)).alloc (.cells (wdc m).toArray 42)).alloc (.cells #[.int .u64 (x : Int), .int .u64 (y : Int)] 39)) (by go_grown)).range
    simpa using this
  have v0 : World.cell? (((w.alloc (.cells (wdc l).toArray 42)).alloc (.cells (wdc m).toArray 42)).alloc (.cells #[.int .u64 (x : Int), .int .u64 (y : Int)] 39)) ⟨w.heap.size + 1 + 1, 0, none⟩ = some (.int .u64 (x : Int)) := by simp [go_sem]
  have v1 : World.cell? (((w.alloc (.cells (wdc l).toArray 42)).alloc (.cells (wdc m).toArray 42)).alloc (.cells #[.int .u64 (x : Int), .int .u64 (y : Int)] 39)) ⟨w.heap.size + 1 + 1, 1, none⟩ = some (.int .u64 (y : Int)) := by simp [go_sem]
  have hB : Hid (Below w.heap.size w (((w.alloc (.cells (wdc l).toArray 42)).alloc (.cells (wdc m).toArray 42)).alloc (.cells #[.int .u64 (x : Int), .int .u64 (y : Int)] 39))) := hide_ (by go_grown)
  generalize ((w.alloc (.cells (wdc l).toArray 42)).alloc (.cells (wdc m).toArray 42)).alloc (.cells #[.int .u64 (x : Int), .int .u64 (y : Int)] 39) = W at *
  have HR := hide_ hR
  have HT := hide_ hT
  have V0 := hide_ v0
  have V1 := hide_ v1
  clear hR hT v0 v1
  refine wp_region_held_drew (S := fun w' => w'.rangeAt w.heap.size 0 (wdc l) ∧ w'.rangeAt (w.heap.size + 1) 0 (wdc m) ∧ w'.cell? ⟨w.heap.size + 1 + 1, 0, none⟩ = some (.int .u64 (x : Int)) ∧ w'.cell? ⟨w.heap.size + 1 + 1, 1, none⟩ = some (.int .u64 (y : Int)) ∧ Below W.heap.size W w') (by kernel_rfl) (keepS HR.out HT.out V0.out V1.out (Below.refl _ _).drew) (fun hHeld => ?_)
  refine take42 (i := 0) rfl (by kernel_rfl) (by kernel_rfl) (by kernel_rfl) (some 10) rfl (.tmp 4) rfl (by rfl) w.heap.size rfl l hl.1 (fun w h => h.1) (fun _ _ _ h => h) (by assumption) ?_
  simp only [Act.put, List.setIfInBounds_toArray, List.set_cons_zero, List.set_cons_succ]
  refine takeR (i := 1) (v := ?_) rfl (by kernel_rfl) (by kernel_rfl) (by kernel_rfl) (some 11) rfl (Or.inl ⟨by rfl, ?_⟩) (fun _ _ _ h => h) (by assumption) ?_
  rotate_left
  · intro w hSw; (try dsimp only at hSw); go_simp; (try with_reducible rfl)
  simp only [Act.put, List.setIfInBounds_toArray, List.set_cons_zero, List.set_cons_succ]
  refine take42 (i := 3) rfl (by kernel_rfl) (by kernel_rfl) (by kernel_rfl) (some 13) rfl (.tmp 4) rfl (by rfl) w.heap.size rfl l hl.1 (fun w h => h.1) (fun _ _ _ h => h) (by assumption) ?_
  simp only [Act.put, List.setIfInBounds_toArray, List.set_cons_zero, List.set_cons_succ]
  refine takeR (i := 4) (v := ?_) rfl (by kernel_rfl) (by kernel_rfl) (by kernel_rfl) (some 14) rfl (Or.inl ⟨by rfl, ?_⟩) (fun _ _ _ h => h) (by assumption) ?_
  rotate_left
  · intro w hSw; (try dsimp only at hSw); go_simp; (try with_reducible rfl)
  simp only [Act.put, List.setIfInBounds_toArray, List.set_cons_zero, List.set_cons_succ]
  refine wpAnyH_ready (rs := [2]) (by kernel_rfl) (by simp) (AllReadyH.cons rfl (fun K hK => ?_) AllReadyH.nil)
  go_simp
  refine (Q1.out _).mono ?_
  rintro e w1 ⟨rfl, b1⟩
  refine hK.out _ _ (keepS HR.out HT.out V0.out V1.out (hHeld.2.2.2.2.trans (b1.mono hHeld.2.2.2.2.size))) (fun hHeld => ?_)
  clear hK K
  try simp only [Act.put, List.setIfInBounds_toArray, List.set_cons_zero, List.set_cons_succ]
  refine wpAnyH_ready (rs := [5]) (by kernel_rfl) (by simp) (AllReadyH.cons rfl (fun K hK => ?_) AllReadyH.nil)
  go_simp
  refine (Q2.out _).mono ?_
  rintro e w2 ⟨rfl, b2⟩
  refine hK.out _ _ (keepS HR.out HT.out V0.out V1.out (hHeld.2.2.2.2.trans (b2.mono hHeld.2.2.2.2.size))) (fun hHeld => ?_)
  clear hK K
  try simp only [Act.put, List.setIfInBounds_toArray, List.set_cons_zero, List.set_cons_succ]
  refine takeR (i := 6) (v := ?_) rfl (by kernel_rfl) (by kernel_rfl) (by kernel_rfl) (some 16) rfl (Or.inl ⟨by rfl, ?_⟩) (fun _ _ _ h => h) (by assumption) ?_
  rotate_left
  · intro w hSw; (try dsimp only at hSw); go_simp; (try with_reducible rfl)
  simp only [Act.put, List.setIfInBounds_toArray, List.set_cons_zero, List.set_cons_succ]
  refine takeR (i := 7) (v := ?_) rfl (by kernel_rfl) (by kernel_rfl) (by kernel_rfl) (some 17) rfl (Or.inl ⟨by rfl, ?_⟩) (fun _ _ _ h => h) (by assumption) ?_
  rotate_left
  · intro w hSw; (try dsimp only at hSw); go_simp; (try with_reducible rfl)
  simp only [Act.put, List.setIfInBounds_toArray, List.set_cons_zero, List.set_cons_succ]
  refine take42 (i := 8) rfl (by kernel_rfl) (by kernel_rfl) (by kernel_rfl) (some 18) rfl (.tmp 4) rfl (by rfl) w.heap.size rfl l hl.1 (fun w h => h.1) (fun _ _ _ h => h) (by assumption) ?_
  simp only [Act.put, List.setIfInBounds_toArray, List.set_cons_zero, List.set_cons_succ]
  refine takeR (i := 9) (v := ?_) rfl (by kernel_rfl) (by kernel_rfl) (by kernel_rfl) (some 19) rfl (Or.inl ⟨by rfl, ?_⟩) (fun _ _ _ h => h) (by assumption) ?_
  rotate_left
  · intro w hSw; (try dsimp only at hSw); go_simp; (try with_reducible rfl)
  simp only [Act.put, List.setIfInBounds_toArray, List.set_cons_zero, List.set_cons_succ]
  refine takeR (i := 10) (v := ?_) rfl (by kernel_rfl) (by kernel_rfl) (by kernel_rfl) (some 20) rfl (Or.inl ⟨by rfl, ?_⟩) (fun _ _ _ h => h) (by assumption) ?_
  rotate_left
  · intro w hSw; (try dsimp only at hSw); go_simp; (try with_reducible rfl)
  simp only [Act.put, List.setIfInBounds_toArray, List.set_cons_zero, List.set_cons_succ]
  refine take42 (i := 12) rfl (by kernel_rfl) (by kernel_rfl) (by kernel_rfl) (some 22) rfl (.tmp 4) rfl (by rfl) w.heap.size rfl l hl.1 (fun w h => h.1) (fun _ _ _ h => h) (by assumption) ?_
  simp only [Act.put, List.setIfInBounds_toArray, List.set_cons_zero, List.set_cons_succ]
  refine takeR (i := 13) (v := ?_) rfl (by kernel_rfl) (by kernel_rfl) (by kernel_rfl) (some 23) rfl (Or.inl ⟨by rfl, ?_⟩) (fun _ _ _ h => h) (by assumption) ?_
  rotate_left
  · intro w hSw; (try dsimp only at hSw); go_simp; (try with_reducible rfl)
  simp only [Act.put, List.setIfInBounds_toArray, List.set_cons_zero, List.set_cons_succ]
  refine takeR (i := 14) (v := ?_) rfl (by kernel_rfl) (by kernel_rfl) (by kernel_rfl) (some 24) rfl (Or.inl ⟨by rfl, ?_⟩) (fun _ _ _ h => h) (by assumption) ?_
  rotate_left
  · intro w hSw; (try dsimp only at hSw); go_simp; (try with_reducible rfl)
  simp only [Act.put, List.setIfInBounds_toArray, List.set_cons_zero, List.set_cons_succ]
  refine wpAnyH_ready (rs := [11]) (by kernel_rfl) (by simp) (AllReadyH.cons rfl (fun K hK => ?_) AllReadyH.nil)
  go_simp
  refine (Q3.out _).mono ?_
  rintro e w3 ⟨rfl, b3⟩
  refine hK.out _ _ (keepS HR.out HT.out V0.out V1.out (hHeld.2.2.2.2.trans (b3.mono hHeld.2.2.2.2.size))) (fun hHeld => ?_)
  clear hK K
  try simp only [Act.put, List.setIfInBounds_toArray, List.set_cons_zero, List.set_cons_succ]
  refine wpAnyH_ready (rs := [15]) (by kernel_rfl) (by simp) (AllReadyH.cons rfl (fun K hK => ?_) AllReadyH.nil)
  go_simp
  refine (Q4.out _).mono ?_
  rintro e w4 ⟨rfl, b4⟩
  refine hK.out _ _ (keepS HR.out HT.out V0.out V1.out (hHeld.2.2.2.2.trans (b4.mono hHeld.2.2.2.2.size))) (fun hHeld => ?_)
  clear hK K
  try simp only [Act.put, List.setIfInBounds_toArray, List.set_cons_zero, List.set_cons_succ]
  refine takeR (i := 16) (v := ?_) rfl (by kernel_rfl) (by kernel_rfl) (by kernel_rfl) (some 26) rfl (Or.inl ⟨by rfl, ?_⟩) (fun _ _ _ h => h) (by assumption) ?_
  rotate_left
  · intro w hSw; (try dsimp only at hSw); go_simp; (try with_reducible rfl)
  simp only [Act.put, List.setIfInBounds_toArray, List.set_cons_zero, List.set_cons_succ]
  refine takeR (i := 17) (v := ?_) rfl (by kernel_rfl) (by kernel_rfl) (by kernel_rfl) (some 27) rfl (Or.inl ⟨by rfl, ?_⟩) (fun _ _ _ h => h) (by assumption) ?_
  rotate_left
  · intro w hSw; (try dsimp only at hSw); go_simp; (try with_reducible rfl)
  simp only [Act.put, List.setIfInBounds_toArray, List.set_cons_zero, List.set_cons_succ]
  refine takeR (i := 18) (v := ?_) rfl (by kernel_rfl) (by kernel_rfl) (by kernel_rfl) (some 9) rfl (Or.inl ⟨by rfl, ?_⟩) (fun _ _ _ h => h) (by assumption) ?_
  rotate_left
  · intro w hSw; (try dsimp only at hSw); go_simp; (try with_reducible rfl)
  simp only [Act.put, List.setIfInBounds_toArray, List.set_cons_zero, List.set_cons_succ]
  refine wpAnyH_done (by kernel_rfl) ?_ _
  go_wp2_with fail
  refine wp_region_held_drew (S := fun w' => w'.rangeAt w.heap.size 0 (wdc l) ∧ w'.rangeAt (w.heap.size + 1) 0 (wdc m) ∧ w'.cell? ⟨w.heap.size + 1 + 1, 0, none⟩ = some (.int .u64 (x : Int)) ∧ w'.cell? ⟨w.heap.size + 1 + 1, 1, none⟩ = some (.int .u64 (y : Int)) ∧ Below W.heap.size W w') (by kernel_rfl) (keepS HR.out HT.out V0.out V1.out hHeld.2.2.2.2.drew) (fun hHeld => ?_)
  refine takeR (i := 0) (v := ?_) rfl (by kernel_rfl) (by kernel_rfl) (by kernel_rfl) (some 28) rfl (Or.inl ⟨by rfl, ?_⟩) (fun _ _ _ h => h) (by assumption) ?_
  rotate_left
  · intro w hSw; (try dsimp only at hSw); go_simp; (try with_reducible rfl)
  simp only [Act.put, List.setIfInBounds_toArray, List.set_cons_zero, List.set_cons_succ]
  refine takeR (i := 1) (v := ?_) rfl (by kernel_rfl) (by kernel_rfl) (by kernel_rfl) (some 29) rfl (Or.inl ⟨by rfl, ?_⟩) (fun _ _ _ h => h) (by assumption) ?_
  rotate_left
  · intro w hSw; (try dsimp only at hSw); go_simp; (try with_reducible rfl)
  simp only [Act.put, List.setIfInBounds_toArray, List.set_cons_zero, List.set_cons_succ]
  refine take42 (i := 2) rfl (by kernel_rfl) (by kernel_rfl) (by kernel_rfl) (some 30) rfl (.tmp 4) rfl (by rfl) w.heap.size rfl l hl.1 (fun w h => h.1) (fun _ _ _ h => h) (by assumption) ?_
  simp only [Act.put, List.setIfInBounds_toArray, List.set_cons_zero, List.set_cons_succ]
  refine take42 (i := 4) rfl (by kernel_rfl) (by kernel_rfl) (by kernel_rfl) (some 32) rfl (.tmp 4) rfl (by rfl) w.heap.size rfl l hl.1 (fun w h => h.1) (fun _ _ _ h => h) (by assumption) ?_
  simp only [Act.put, List.setIfInBounds_toArray, List.set_cons_zero, List.set_cons_succ]
  refine wpAnyH_ready (rs := [3]) (by kernel_rfl) (by simp) (AllReadyH.cons rfl (fun K hK => ?_) AllReadyH.nil)
  go_simp
  refine (Q5.out _).mono ?_
  rintro e w5 ⟨rfl, b5⟩
  refine hK.out _ _ (keepS HR.out HT.out V0.out V1.out (hHeld.2.2.2.2.trans (b5.mono hHeld.2.2.2.2.size))) (fun hHeld => ?_)
  clear hK K
  try simp only [Act.put, List.setIfInBounds_toArray, List.set_cons_zero, List.set_cons_succ]
  refine wpAnyH_ready (rs := [5]) (by kernel_rfl) (by simp) (AllReadyH.cons rfl (fun K hK => ?_) AllReadyH.nil)
  go_simp
  refine (Q6.out _).mono ?_
  rintro e w6 ⟨rfl, b6⟩
  refine hK.out _ _ (keepS HR.out HT.out V0.out V1.out (hHeld.2.2.2.2.trans (b6.mono hHeld.2.2.2.2.size))) (fun hHeld => ?_)
  clear hK K
  try simp only [Act.put, List.setIfInBounds_toArray, List.set_cons_zero, List.set_cons_succ]
  refine takeR (i := 6) (v := ?_) rfl (by kernel_rfl) (by kernel_rfl) (by kernel_rfl) (some 34) rfl (Or.inl ⟨by rfl, ?_⟩) (fun _ _ _ h => h) (by assumption) ?_
  rotate_left
  · intro w hSw; (try dsimp only at hSw); go_simp; (try with_reducible rfl)
  simp only [Act.put, List.setIfInBounds_toArray, List.set_cons_zero, List.set_cons_succ]
  refine takeR (i := 7) (v := ?_) rfl (by kernel_rfl) (by kernel_rfl) (by kernel_rfl) (some 35) rfl (Or.inl ⟨by rfl, ?_⟩) (fun _ _ _ h => h) (by assumption) ?_
  rotate_left
  · intro w hSw; (try dsimp only at hSw); go_simp; (try with_reducible rfl)
  simp only [Act.put, List.setIfInBounds_toArray, List.set_cons_zero, List.set_cons_succ]
  refine takeR (i := 8) (v := ?_) rfl (by kernel_rfl) (by kernel_rfl) (by kernel_rfl) (some 36) rfl (Or.inl ⟨by rfl, ?_⟩) (fun _ _ _ h => h) (by assumption) ?_
  rotate_left
  · intro w hSw; (try dsimp only at hSw); go_simp; (try with_reducible rfl)
  simp only [Act.put, List.setIfInBounds_toArray, List.set_cons_zero, List.set_cons_succ]
  refine take42 (i := 9) rfl (by kernel_rfl) (by kernel_rfl) (by kernel_rfl) (some 37) rfl (.tmp 4) rfl (by rfl) w.heap.size rfl l hl.1 (fun w h => h.1) (fun _ _ _ h => h) (by assumption) ?_
  simp only [Act.put, List.setIfInBounds_toArray, List.set_cons_zero, List.set_cons_succ]
  refine take42 (i := 11) rfl (by kernel_rfl) (by kernel_rfl) (by kernel_rfl) (some 39) rfl (.tmp 4) rfl (by rfl) w.heap.size rfl l hl.1 (fun w h => h.1) (fun _ _ _ h => h) (by assumption) ?_
  simp only [Act.put, List.setIfInBounds_toArray, List.set_cons_zero, List.set_cons_succ]
  refine wpAnyH_ready (rs := [10]) (by kernel_rfl) (by simp) (AllReadyH.cons rfl (fun K hK => ?_) AllReadyH.nil)
  go_simp
  refine (Q7.out _).mono ?_
  rintro e w7 ⟨rfl, b7⟩
  refine hK.out _ _ (keepS HR.out HT.out V0.out V1.out (hHeld.2.2.2.2.trans (b7.mono hHeld.2.2.2.2.size))) (fun hHeld => ?_)
  clear hK K
  try simp only [Act.put, List.setIfInBounds_toArray, List.set_cons_zero, List.set_cons_succ]
  refine wpAnyH_ready (rs := [12]) (by kernel_rfl) (by simp) (AllReadyH.cons rfl (fun K hK => ?_) AllReadyH.nil)
  go_simp
  refine (Q8.out _).mono ?_
  rintro e w8 ⟨rfl, b8⟩
  refine hK.out _ _ (keepS HR.out HT.out V0.out V1.out (hHeld.2.2.2.2.trans (b8.mono hHeld.2.2.2.2.size))) (fun hHeld => ?_)
  clear hK K
  try simp only [Act.put, List.setIfInBounds_toArray, List.set_cons_zero, List.set_cons_succ]
  refine takeR (i := 13) (v := ?_) rfl (by kernel_rfl) (by kernel_rfl) (by kernel_rfl) (some 41) rfl (Or.inl ⟨by rfl, ?_⟩) (fun _ _ _ h => h) (by assumption) ?_
  rotate_left
  · intro w hSw; (try dsimp only at hSw); go_simp; (try with_reducible rfl)
  simp only [Act.put, List.setIfInBounds_toArray, List.set_cons_zero, List.set_cons_succ]
  refine takeR (i := 14) (v := ?_) rfl (by kernel_rfl) (by kernel_rfl) (by kernel_rfl) (some 42) rfl (Or.inl ⟨by rfl, ?_⟩) (fun _ _ _ h => h) (by assumption) ?_
  rotate_left
  · intro w hSw; (try dsimp only at hSw); go_simp; (try with_reducible rfl)
  simp only [Act.put, List.setIfInBounds_toArray, List.set_cons_zero, List.set_cons_succ]
  refine takeR (i := 15) (v := ?_) rfl (by kernel_rfl) (by kernel_rfl) (by kernel_rfl) (some 43) rfl (Or.inl ⟨by rfl, ?_⟩) (fun _ _ _ h => h) (by assumption) ?_
  rotate_left
  · intro w hSw; (try dsimp only at hSw); go_simp; (try with_reducible rfl)
  simp only [Act.put, List.setIfInBounds_toArray, List.set_cons_zero, List.set_cons_succ]
  refine take42 (i := 16) rfl (by kernel_rfl) (by kernel_rfl) (by kernel_rfl) (some 44) rfl (.tmp 4) rfl (by rfl) w.heap.size rfl l hl.1 (fun w h => h.1) (fun _ _ _ h => h) (by assumption) ?_
  simp only [Act.put, List.setIfInBounds_toArray, List.set_cons_zero, List.set_cons_succ]
  refine take42 (i := 17) rfl (by kernel_rfl) (by kernel_rfl) (by kernel_rfl) (some 45) rfl (.tmp 5) rfl (by rfl) (w.heap.size + 1) rfl m hm.1 (fun w h => h.2.1) (fun _ _ _ h => h) (by assumption) ?_
  simp only [Act.put, List.setIfInBounds_toArray, List.set_cons_zero, List.set_cons_succ]
  refine take42 (i := 19) rfl (by kernel_rfl) (by kernel_rfl) (by kernel_rfl) (some 47) rfl (.tmp 4) rfl (by rfl) w.heap.size rfl l hl.1 (fun w h => h.1) (fun _ _ _ h => h) (by assumption) ?_
  simp only [Act.put, List.setIfInBounds_toArray, List.set_cons_zero, List.set_cons_succ]
  refine take42 (i := 20) rfl (by kernel_rfl) (by kernel_rfl) (by kernel_rfl) (some 48) rfl (.tmp 5) rfl (by rfl) (w.heap.size + 1) rfl m hm.1 (fun w h => h.2.1) (fun _ _ _ h => h) (by assumption) ?_
  simp only [Act.put, List.setIfInBounds_toArray, List.set_cons_zero, List.set_cons_succ]
  refine wpAnyH_ready (rs := [18]) (by kernel_rfl) (by simp) (AllReadyH.cons rfl (fun K hK => ?_) AllReadyH.nil)
  go_simp
  refine (Q9.out _).mono ?_
  rintro e w9 ⟨u9, rfl, o9, b9⟩
  refine hK.out _ _ (keepS HR.out HT.out V0.out V1.out (hHeld.2.2.2.2.trans (b9.mono hHeld.2.2.2.2.size))) (fun hHeld => ?_)
  clear hK K
  try simp only [Act.put, List.setIfInBounds_toArray, List.set_cons_zero, List.set_cons_succ]
  refine wpAnyH_ready (rs := [21]) (by kernel_rfl) (by simp) (AllReadyH.cons rfl (fun K hK => ?_) AllReadyH.nil)
  go_simp
  refine (Q10.out _).mono ?_
  rintro e w10 ⟨u10, rfl, o10, b10⟩
  refine hK.out _ _ (keepS HR.out HT.out V0.out V1.out (hHeld.2.2.2.2.trans (b10.mono hHeld.2.2.2.2.size))) (fun hHeld => ?_)
  clear hK K
  try simp only [Act.put, List.setIfInBounds_toArray, List.set_cons_zero, List.set_cons_succ]
  refine wpAnyH_ready (rs := [22]) (by kernel_rfl) (by simp) (AllReadyH.cons rfl (fun K hK => ?_) AllReadyH.nil)
  go_simp
  refine (iequal_any u9 u10 D D _ ((Cells.ofOwn o9).later b10) (Cells.ofOwn o10)).mono ?_
  rintro e w11 ⟨rfl, b11⟩
  simp only [decide_true]
  refine hK.out _ _ (keepS HR.out HT.out V0.out V1.out (hHeld.2.2.2.2.trans (b11.mono hHeld.2.2.2.2.size))) (fun hHeld => ?_)
  clear hK K
  try simp only [Act.put, List.setIfInBounds_toArray, List.set_cons_zero, List.set_cons_succ]
  refine takeR (i := 23) (v := ?_) rfl (by kernel_rfl) (by kernel_rfl) (by kernel_rfl) (some 51) rfl (Or.inl ⟨by rfl, ?_⟩) (fun _ _ _ h => h) (by assumption) ?_
  rotate_left
  · intro w hSw; (try dsimp only at hSw); go_simp; (try with_reducible rfl)
  simp only [Act.put, List.setIfInBounds_toArray, List.set_cons_zero, List.set_cons_succ]
  refine takeR (i := 24) (v := ?_) rfl (by kernel_rfl) (by kernel_rfl) (by kernel_rfl) (some 52) rfl (Or.inl ⟨by rfl, ?_⟩) (fun _ _ _ h => h) (by assumption) ?_
  rotate_left
  · intro w hSw; (try dsimp only at hSw); go_simp; (try with_reducible rfl)
  simp only [Act.put, List.setIfInBounds_toArray, List.set_cons_zero, List.set_cons_succ]
  refine wpAnyH_ready (rs := [25]) (by kernel_rfl) (by simp) (AllReadyH.cons rfl (fun K hK => ?_) AllReadyH.nil)
  go_simp
  refine (awake4_any _).mono ?_
  rintro e w12 ⟨rfl, b12⟩
  refine hK.out _ _ (keepS HR.out HT.out V0.out V1.out (hHeld.2.2.2.2.trans (b12.mono hHeld.2.2.2.2.size))) (fun hHeld => ?_)
  clear hK K
  try simp only [Act.put, List.setIfInBounds_toArray, List.set_cons_zero, List.set_cons_succ]
  refine takeR (i := 26) (v := ?_) rfl (by kernel_rfl) (by kernel_rfl) (by kernel_rfl) (some 54) rfl (Or.inl ⟨by rfl, ?_⟩) (fun _ _ _ h => h) (by assumption) ?_
  rotate_left
  · intro w hSw; (try dsimp only at hSw); go_simp; (try with_reducible rfl)
  simp only [Act.put, List.setIfInBounds_toArray, List.set_cons_zero, List.set_cons_succ]
  refine takeR (i := 27) (v := ?_) rfl (by kernel_rfl) (by kernel_rfl) (by kernel_rfl) (some 8) rfl (Or.inl ⟨by rfl, ?_⟩) (fun _ _ _ h => h) (by assumption) ?_
  rotate_left
  · intro w hSw; (try dsimp only at hSw); go_simp; (try with_reducible rfl)
  simp only [Act.put, List.setIfInBounds_toArray, List.set_cons_zero, List.set_cons_succ]
  refine wpAnyH_done (by kernel_rfl) ?_ _
  go_wp2
  go_ret
  exact ⟨rfl, hB.out.trans (hHeld.2.2.2.2.mono hB.out.size)⟩

end Go.Proofs.Ytmpfpolanndakaa
