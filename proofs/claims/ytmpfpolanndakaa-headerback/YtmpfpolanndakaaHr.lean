import Derived.Test.YtmpfpolanndakaaHq
import Derived.Test.YtmpfpolanndakaaHp
namespace Go.Proofs.Ytmpfpolanndakaa
open Go Go.RowKit
set_option linter.unusedVariables false
set_option linter.unusedSimpArgs false

theorem keepT {W w' : World} {g g' g'' : Nat} {cs ds es : List Value} (h1 : W.rangeAt g 0 cs) (h2 : W.rangeAt g' 0 ds) (h3 : W.rangeAt g'' 0 es) (hb : Below W.heap.size W w') :
    w'.rangeAt g 0 cs ∧ w'.rangeAt g' 0 ds ∧ w'.rangeAt g'' 0 es ∧ Below W.heap.size W w' :=
  ⟨range_later h1 hb, range_later h2 hb, range_later h3 hb, hb⟩
theorem HB.alloc {w : World} {g : Nat} {l : List (Nat × Nat)} (h : HB w g l) (o : Obj) : HB (w.alloc o) g l := h.later ((Below.refl _ _).alloc (Nat.le_refl _) _)

set_option maxRecDepth 100000 in
set_option maxHeartbeats 8000000 in
theorem headerPuts_any (l : List (Nat × Nat)) (hl : isH l) (v : Value) (b : List Int) (w : World) (hv' : Bytes w v b) :
    Calls Try.prog 7 #[hv l, v] w fun e w' => e = .returned (.bool true) ∧ Below w.heap.size w w' := by
  obtain ⟨ao, cap, rfl⟩ := hv'.short
  have HV := hide_ hv'
  clear hv'
  have q1 := fun w h => parse_any (.slice ao b.length cap) b w h
  have q2 := fun w h => rparse_any (.slice ao b.length cap) b w h
  have q3 := fun w => hput_any l hl w
  have q4 := fun w => rhput_any l hl w
  have HPL := hide_ (pr_len b)
  unfold hv at *
  generalize pr b = P at *
  generalize pe b = er at *
  generalize putK l 24 = T at *
  have k1 : ∀ w, (Op.equalIn 10000 42 (.agg (wdc P).toArray) (.agg (wdc P).toArray)).run Try.prog w = .ok true w := fun w => by have := run_heqIn P P HPL.out HPL.out w; simpa using this
  have e1 : (er == er) = true := by simp
  have Q1 := hide_ q1
  have Q2 := hide_ q2
  have Q3 := hide_ q3
  have Q4 := hide_ q4
  clear q1 q2 q3 q4
  go_enter Try.func7, Try.ntmps7
  go_wp2_with (first | (go_at_call 40; refine (Q1.out _ (HV.out.later (by go_grown))).mono ?_; rintro e w1 ⟨rfl, b1⟩; have d1 := (by go_grown : Below w.heap.size w _).trans (b1.mono (by simp)); have l1 := (HB.new w l).later b1; clear b1) | (refine wpList_storeH rfl (.tmp 5) (.tmp 12) rfl w1.heap.size (by simp [Act.eval, Act.put]) z24 P z24_len HPL.out (by simp [Act.eval, Act.put]) (HB.zero w1) ?_; intro w2 h2 b2; have d2 := (d1.alloc d1.size _).trans (b2 w.heap.size d1.size); have l2 := (l1.alloc _).below (b2 w1.heap.size (Nat.le_refl _)) l1.lt; clear b2 l1) | (go_at_call 41; refine (Q2.out _ (HV.out.later d2)).mono ?_; rintro e w3 ⟨rfl, b3⟩; have d3 := d2.trans (b3.mono d2.size); have l3 := l2.later b3; have h3 := h2.later b3; clear b3 l2 h2) | (refine wpList_storeH rfl (.tmp 7) (.tmp 17) rfl w3.heap.size (by simp [Act.eval, Act.put]) z24 P z24_len HPL.out (by simp [Act.eval, Act.put]) (HB.zero w3) ?_; intro w4 h4 b4; have d4 := (d3.alloc d3.size _).trans (b4 w.heap.size d3.size); have l4 := (l3.alloc _).below (b4 w3.heap.size (Nat.le_refl _)) l3.lt; have p4 := (h3.alloc _).below (b4 w3.heap.size (Nat.le_refl _)) h3.lt; clear b4 l3 h3))
  have D4 := hide_ d4
  have L4 := hide_ l4.range
  have P4 := hide_ p4.range
  have H4 := hide_ h4.range
  clear d1 d2 d3 d4 l4 p4 h4
  refine wp_region_held_drew (S := fun w' => w'.rangeAt w.heap.size 0 (wdc l) ∧ w'.rangeAt w1.heap.size 0 (wdc P) ∧ w'.rangeAt w3.heap.size 0 (wdc P) ∧ Below w4.heap.size w4 w') (by kernel_rfl) (keepT L4.out P4.out H4.out (Below.refl _ _).drew) (fun hHeld => ?_)
  refine take42 (i := 0) rfl (by kernel_rfl) (by kernel_rfl) (by kernel_rfl) (some 19) rfl (.tmp 2) rfl (by rfl) w.heap.size rfl l hl.1 (fun w h => h.1) (fun _ _ _ h => h) (by assumption) ?_
  simp only [Act.put, List.setIfInBounds_toArray, List.set_cons_zero, List.set_cons_succ]
  refine take42 (i := 2) rfl (by kernel_rfl) (by kernel_rfl) (by kernel_rfl) (some 21) rfl (.tmp 2) rfl (by rfl) w.heap.size rfl l hl.1 (fun w h => h.1) (fun _ _ _ h => h) (by assumption) ?_
  simp only [Act.put, List.setIfInBounds_toArray, List.set_cons_zero, List.set_cons_succ]
  refine wpAnyH_ready (rs := [1]) (by kernel_rfl) (by simp) (AllReadyH.cons rfl (fun K hK => ?_) AllReadyH.nil)
  go_simp
  refine (Q3.out _).mono ?_
  rintro e w5 ⟨u5, rfl, y5, c5⟩
  refine hK.out _ _ (keepT L4.out P4.out H4.out (hHeld.2.2.2.trans (c5.mono hHeld.2.2.2.size))) (fun hHeld => ?_)
  clear hK K
  try simp only [Act.put, List.setIfInBounds_toArray, List.set_cons_zero, List.set_cons_succ]
  refine wpAnyH_ready (rs := [3]) (by kernel_rfl) (by simp) (AllReadyH.cons rfl (fun K hK => ?_) AllReadyH.nil)
  go_simp
  refine (Q4.out _).mono ?_
  rintro e w6 ⟨u6, rfl, y6, c6⟩
  refine hK.out _ _ (keepT L4.out P4.out H4.out (hHeld.2.2.2.trans (c6.mono hHeld.2.2.2.size))) (fun hHeld => ?_)
  clear hK K
  try simp only [Act.put, List.setIfInBounds_toArray, List.set_cons_zero, List.set_cons_succ]
  refine wpAnyH_ready (rs := [4]) (by kernel_rfl) (by simp) (AllReadyH.cons rfl (fun K hK => ?_) AllReadyH.nil)
  go_simp
  refine (equal_any u5 u6 T T _ (y5.later c6) y6).mono ?_
  rintro e w7 ⟨rfl, c7⟩
  simp only [beq_self_eq_true]
  refine hK.out _ _ (keepT L4.out P4.out H4.out (hHeld.2.2.2.trans (c7.mono hHeld.2.2.2.size))) (fun hHeld => ?_)
  clear hK K
  try simp only [Act.put, List.setIfInBounds_toArray, List.set_cons_zero, List.set_cons_succ]
  refine takeR (i := 5) (v := ?_) rfl (by kernel_rfl) (by kernel_rfl) (by kernel_rfl) (some 24) rfl (Or.inl ⟨by rfl, ?_⟩) (fun _ _ _ h => h) (by assumption) ?_
  rotate_left
  · intro w hSw; (try dsimp only at hSw); go_simp; (try with_reducible rfl)
  simp only [Act.put, List.setIfInBounds_toArray, List.set_cons_zero, List.set_cons_succ]
  refine take42 (i := 6) rfl (by kernel_rfl) (by kernel_rfl) (by kernel_rfl) (some 25) rfl (.tmp 5) rfl (by rfl) w1.heap.size rfl P HPL.out (fun w h => h.2.1) (fun _ _ _ h => h) (by assumption) ?_
  simp only [Act.put, List.setIfInBounds_toArray, List.set_cons_zero, List.set_cons_succ]
  refine take42 (i := 7) rfl (by kernel_rfl) (by kernel_rfl) (by kernel_rfl) (some 26) rfl (.tmp 7) rfl (by rfl) w3.heap.size rfl P HPL.out (fun w h => h.2.2.1) (fun _ _ _ h => h) (by assumption) ?_
  simp only [Act.put, List.setIfInBounds_toArray, List.set_cons_zero, List.set_cons_succ]
  refine takeR (i := 8) (v := ?_) rfl (by kernel_rfl) (by kernel_rfl) (by kernel_rfl) (some 27) rfl (Or.inl ⟨by rfl, ?_⟩) (fun _ _ _ h => h) (by assumption) ?_
  rotate_left
  · intro w hSw; (try dsimp only at hSw); go_simp; (try with_reducible rfl)
  simp only [Act.put, List.setIfInBounds_toArray, List.set_cons_zero, List.set_cons_succ]
  refine takeR (i := 9) (v := ?_) rfl (by kernel_rfl) (by kernel_rfl) (by kernel_rfl) (some 28) rfl (Or.inl ⟨by rfl, ?_⟩) (fun _ _ _ h => h) (by assumption) ?_
  rotate_left
  · intro w hSw; (try dsimp only at hSw); go_simp; (try with_reducible rfl)
  simp only [Act.put, List.setIfInBounds_toArray, List.set_cons_zero, List.set_cons_succ]
  refine takeR (i := 10) (v := ?_) rfl (by kernel_rfl) (by kernel_rfl) (by kernel_rfl) (some 29) rfl (Or.inl ⟨by rfl, ?_⟩) (fun _ _ _ h => h) (by assumption) ?_
  rotate_left
  · intro w hSw; (try dsimp only at hSw); go_simp; (try with_reducible rfl)
  simp only [Act.put, List.setIfInBounds_toArray, List.set_cons_zero, List.set_cons_succ]
  refine takeR (i := 11) (v := ?_) rfl (by kernel_rfl) (by kernel_rfl) (by kernel_rfl) (some 30) rfl (Or.inl ⟨by rfl, ?_⟩) (fun _ _ _ h => h) (by assumption) ?_
  rotate_left
  · intro w hSw; (try dsimp only at hSw); go_simp; (try with_reducible rfl)
  simp only [Act.put, List.setIfInBounds_toArray, List.set_cons_zero, List.set_cons_succ]
  refine takeR (i := 12) (v := ?_) rfl (by kernel_rfl) (by kernel_rfl) (by kernel_rfl) (some 31) rfl (Or.inl ⟨by rfl, ?_⟩) (fun _ _ _ h => h) (by assumption) ?_
  rotate_left
  · intro w hSw; (try dsimp only at hSw); go_simp; (try with_reducible rfl)
  simp only [Act.put, List.setIfInBounds_toArray, List.set_cons_zero, List.set_cons_succ]
  refine takeR (i := 13) (v := ?_) rfl (by kernel_rfl) (by kernel_rfl) (by kernel_rfl) (some 32) rfl (Or.inl ⟨by rfl, ?_⟩) (fun _ _ _ h => h) (by assumption) ?_
  rotate_left
  · intro w hSw; (try dsimp only at hSw); go_simp; (try with_reducible rfl)
  simp only [Act.put, List.setIfInBounds_toArray, List.set_cons_zero, List.set_cons_succ]
  refine takeR (i := 14) (v := ?_) rfl (by kernel_rfl) (by kernel_rfl) (by kernel_rfl) (some 33) rfl (Or.inl ⟨by rfl, ?_⟩) (fun _ _ _ h => h) (by assumption) ?_
  rotate_left
  · intro w hSw; (try dsimp only at hSw); go_simp; (try with_reducible rfl)
  simp only [Act.put, List.setIfInBounds_toArray, List.set_cons_zero, List.set_cons_succ]
  refine takeR (i := 15) (v := ?_) rfl (by kernel_rfl) (by kernel_rfl) (by kernel_rfl) (some 34) rfl (Or.inl ⟨by rfl, ?_⟩) (fun _ _ _ h => h) (by assumption) ?_
  rotate_left
  · intro w hSw; (try dsimp only at hSw); go_simp; (try with_reducible rfl)
  simp only [Act.put, List.setIfInBounds_toArray, List.set_cons_zero, List.set_cons_succ]
  refine wpAnyH_ready (rs := [16]) (by kernel_rfl) (by simp) (AllReadyH.cons rfl (fun K hK => ?_) AllReadyH.nil)
  go_simp
  refine (awake4_any _).mono ?_
  rintro e w8 ⟨rfl, c8⟩
  refine hK.out _ _ (keepT L4.out P4.out H4.out (hHeld.2.2.2.trans (c8.mono hHeld.2.2.2.size))) (fun hHeld => ?_)
  clear hK K
  try simp only [Act.put, List.setIfInBounds_toArray, List.set_cons_zero, List.set_cons_succ]
  refine takeR (i := 17) (v := ?_) rfl (by kernel_rfl) (by kernel_rfl) (by kernel_rfl) (some 36) rfl (Or.inl ⟨by rfl, ?_⟩) (fun _ _ _ h => h) (by assumption) ?_
  rotate_left
  · intro w hSw; (try dsimp only at hSw); go_simp; (try with_reducible rfl)
  simp only [Act.put, List.setIfInBounds_toArray, List.set_cons_zero, List.set_cons_succ]
  refine takeR (i := 18) (v := ?_) rfl (by kernel_rfl) (by kernel_rfl) (by kernel_rfl) (some 4) rfl (Or.inl ⟨by rfl, ?_⟩) (fun _ _ _ h => h) (by assumption) ?_
  rotate_left
  · intro w hSw; (try dsimp only at hSw); go_simp; (try with_reducible rfl)
  simp only [Act.put, List.setIfInBounds_toArray, List.set_cons_zero, List.set_cons_succ]
  refine wpAnyH_done (by kernel_rfl) ?_ _
  go_wp2
  go_ret
  exact ⟨rfl, D4.out.trans (hHeld.2.2.2.mono D4.out.size)⟩

end Go.Proofs.Ytmpfpolanndakaa
