import Derived.Test.YtmpfpolanndakaaHr
namespace Go.Proofs.Ytmpfpolanndakaa
open Go Go.RowKit
set_option linter.unusedVariables false
set_option linter.unusedSimpArgs false

set_option maxRecDepth 100000 in
set_option maxHeartbeats 8000000 in
theorem headerBack_any (l : List (Nat × Nat)) (hl : isH l) (v : Value) (b : List Int) (w : World) (hv' : Bytes w v b) :
    Calls Try.prog 8 #[hv l, v] w fun e w' => e = .returned (.bool true) ∧ Below w.heap.size w w' := by
  obtain ⟨ao, cap, rfl⟩ := hv'.short
  have HV := hide_ hv'
  have hB : isB b := by obtain ⟨_, _, _, _, _, h, _⟩ := hv'; exact h
  clear hv'
  have hC := clip_isH hl
  have hcc := clip_clip l
  obtain ⟨g1, g2⟩ := back_ok hC hcc
  have q1 := fun w => clip_any l hl w
  have q2 := fun w => hput_any (clip l) hC w
  have q3 := fun v w h => parse_any v (putK (clip l) 24) w h
  rw [g1, g2] at q3
  have q4 := fun w => fits_any (clip l) hC w
  rw [decide_eq_true hcc] at q4
  have q5 := fun w h => parse_any (.slice ao b.length cap) b w h
  have HPL := hide_ (pr_len b)
  have HCL := hide_ hC.1
  have hcase : (¬ pe b = 0 ∧ pr b = z24 ∧ pe b = 4) ∨ (pe b = 0 ∧ (∀ w, Calls Try.prog 32 #[hv (pr b)] w fun e w' => e = .returned (.bool true) ∧ Below w.heap.size w w') ∧ (∀ w, Calls Try.prog 43 #[hv (pr b)] w fun e w' => ∃ u, e = .returned u ∧ Bytes w' u b ∧ Below w.heap.size w w')) := by
    by_cases h : pe b = 0
    · right
      obtain ⟨e1, e2, e3⟩ := put_back b hB h
      refine ⟨h, fun w => ?_, fun w => ?_⟩
      · have := fits_any (PK b 24) (PK_isH b hB 24) w
        rw [decide_eq_true e2] at this
        rw [e1]; exact this
      · have := hput_any (PK b 24) (PK_isH b hB 24) w
        rw [e3] at this
        rw [e1]; exact this
    · exact .inl ⟨h, put_no b h⟩
  unfold hv at *
  have k1 : ∀ w, (Op.equalIn 10000 42 (.agg (wdc (clip l)).toArray) (.agg (wdc (clip l)).toArray)).run Try.prog w = .ok true w := fun w => by have := run_heqIn (clip l) (clip l) hC.1 hC.1 w; simpa using this
  have k2 : ∀ w, (Op.equalIn 10000 42 (.agg (wdc z24).toArray) (.agg #[.int .u64 0, .int .u64 0, .int .u64 0, .int .u64 0, .int .u64 0, .int .u64 0, .int .u64 0, .int .u64 0, .int .u64 0, .int .u64 0, .int .u64 0, .int .u64 0, .int .u64 0, .int .u64 0, .int .u64 0, .int .u64 0, .int .u64 0, .int .u64 0, .int .u64 0, .int .u64 0, .int .u64 0, .int .u64 0, .int .u64 0, .int .u64 0, .int .u64 0, .int .u64 0, .int .u64 0, .int .u64 0, .int .u64 0, .int .u64 0, .int .u64 0, .int .u64 0, .int .u64 0, .int .u64 0, .int .u64 0, .int .u64 0, .int .u64 0, .int .u64 0, .int .u64 0, .int .u64 0, .int .u64 0, .int .u64 0, .int .u64 0, .int .u64 0, .int .u64 0, .int .u64 0, .int .u64 0, .int .u64 0])).run Try.prog w = .ok true w := fun w => by
    have := run_heqIn z24 z24 z24_len z24_len w
    rw [decide_eq_true rfl] at this
    exact this
  have h0 := HB.new w l
  clear hcc g1 g2 hC
  generalize clip l = C at *
  generalize putK C 24 = T at *
  have Q1 := hide_ q1
  have Q2 := hide_ q2
  have Q3 := hide_ q3
  have Q4 := hide_ q4
  rcases hcase with ⟨hne, hp, he⟩ | ⟨he, q6, q7⟩
  · rw [hp, he] at q5
    rw [hp] at HPL
    have Q5 := hide_ q5
    clear q1 q2 q3 q4 q5 hne hp he hB
    generalize hPz : z24 = P at Q5
    have k2 : ∀ w, (Op.equalIn 10000 42 (.agg (wdc P).toArray) (.agg #[.int .u64 0, .int .u64 0, .int .u64 0, .int .u64 0, .int .u64 0, .int .u64 0, .int .u64 0, .int .u64 0, .int .u64 0, .int .u64 0, .int .u64 0, .int .u64 0, .int .u64 0, .int .u64 0, .int .u64 0, .int .u64 0, .int .u64 0, .int .u64 0, .int .u64 0, .int .u64 0, .int .u64 0, .int .u64 0, .int .u64 0, .int .u64 0, .int .u64 0, .int .u64 0, .int .u64 0, .int .u64 0, .int .u64 0, .int .u64 0, .int .u64 0, .int .u64 0, .int .u64 0, .int .u64 0, .int .u64 0, .int .u64 0, .int .u64 0, .int .u64 0, .int .u64 0, .int .u64 0, .int .u64 0, .int .u64 0, .int .u64 0, .int .u64 0, .int .u64 0, .int .u64 0, .int .u64 0, .int .u64 0])).run Try.prog w = .ok true w := by rw [← hPz]; exact k2
    have HPL : Hid (P.length = 24) := by rw [← hPz]; exact HPL
    clear hPz
    go_enter Try.func8, Try.ntmps8
    go_wp2_with (first | (refine wpList_loadHw (by simp [Region.wanted, yielded]) (.tmp 2) rfl w.heap.size (by simp [Act.eval, Act.put]) l hl.1 (by assumption) ?_) | (go_at_call 34; refine (Q1.out _).mono ?_; rintro e w1 ⟨rfl, b1⟩; have d1 := (by go_grown : Below w.heap.size w _).trans (b1.mono (by simp)); have h1 := h0.later b1; clear b1 h0) | (refine wpList_storeH rfl (.tmp 2) (.tmp 10) rfl w.heap.size (by simp [Act.eval, Act.put]) l C hl.1 HCL.out (by simp [Act.eval, Act.put]) h1 ?_; intro w2 h2 b2; have d2 := d1.trans (b2 w.heap.size (Nat.le_refl _)); clear b2 h1) | (refine wpList_loadHw (by simp [Region.wanted, yielded]) (.tmp 2) rfl w.heap.size (by simp [Act.eval, Act.put]) C HCL.out (by assumption) ?_) | (go_at_call_of 43 (Value.agg (wdc C).toArray); refine (Q2.out _).mono ?_; rintro e w3 ⟨u3, rfl, y3, b3⟩; have d3 := d2.trans (b3.mono d2.size); have h3 := h2.later b3; clear b3 h2) | (go_at_call_of 40 u3; refine (Q3.out u3 _ y3).mono ?_; rintro e w4 ⟨rfl, b4⟩; have d4 := d3.trans (b4.mono d3.size); have h4 := h3.later b4; clear b4 h3 y3) | (refine wpList_storeH rfl (.tmp 5) (.tmp 15) rfl w4.heap.size (by simp [Act.eval, Act.put]) z24 C z24_len HCL.out (by simp [Act.eval, Act.put]) (HB.zero w4) ?_; intro w5 h5 b5; have d5 := (d4.alloc d4.size _).trans (b5 w.heap.size d4.size); have k5 := (h4.alloc _).below (b5 w4.heap.size (Nat.le_refl _)) h4.lt; clear b5 h4) | (refine wpList_loadHw (by simp [Region.wanted, yielded]) (.tmp 5) rfl w4.heap.size (by simp [Act.eval, Act.put]) C HCL.out (by assumption) ?_) | (go_at_call_of 32 (Value.agg (wdc C).toArray); refine (Q4.out _).mono ?_; rintro e w6 ⟨rfl, b6⟩; have d6 := d5.trans (b6.mono d5.size); clear b6) | (go_at_call_of 40 (Value.slice ao b.length cap); refine (Q5.out _ (HV.out.later d6)).mono ?_; rintro e w7 ⟨rfl, b7⟩; have d7 := d6.trans (b7.mono d6.size); clear b7) | (refine wpList_storeH rfl (.tmp 7) (.tmp 32) rfl w7.heap.size (by simp [Act.eval, Act.put]) z24 P z24_len HPL.out (by simp [Act.eval, Act.put]) (HB.zero w7) ?_; intro w8 h8 b8; have d8 := (d7.alloc d7.size _).trans (b8 w.heap.size d7.size); clear b8) | (refine wpList_loadHw (by simp [Region.wanted, yielded]) (.tmp 7) rfl w7.heap.size (by simp [Act.eval, Act.put]) P HPL.out (by assumption) ?_) | (go_at_call 39; refine (awake4_any _).mono ?_; rintro e w9 ⟨rfl, b9⟩))
    go_ret
    exact ⟨rfl, d8.trans (b9.mono d8.size)⟩
  · rw [he] at q5
    generalize pr b = P at *
    have Q5 := hide_ q5
    have Q6 := hide_ q6
    have Q7 := hide_ q7
    clear q1 q2 q3 q4 q5 q6 q7 he hB k2
    go_enter Try.func8, Try.ntmps8
    go_wp2_with (first | (refine wpList_loadHw (by simp [Region.wanted, yielded]) (.tmp 2) rfl w.heap.size (by simp [Act.eval, Act.put]) l hl.1 (by assumption) ?_) | (go_at_call 34; refine (Q1.out _).mono ?_; rintro e w1 ⟨rfl, b1⟩; have d1 := (by go_grown : Below w.heap.size w _).trans (b1.mono (by simp)); have h1 := h0.later b1; clear b1 h0) | (refine wpList_storeH rfl (.tmp 2) (.tmp 10) rfl w.heap.size (by simp [Act.eval, Act.put]) l C hl.1 HCL.out (by simp [Act.eval, Act.put]) h1 ?_; intro w2 h2 b2; have d2 := d1.trans (b2 w.heap.size (Nat.le_refl _)); clear b2 h1) | (refine wpList_loadHw (by simp [Region.wanted, yielded]) (.tmp 2) rfl w.heap.size (by simp [Act.eval, Act.put]) C HCL.out (by assumption) ?_) | (go_at_call_of 43 (Value.agg (wdc C).toArray); refine (Q2.out _).mono ?_; rintro e w3 ⟨u3, rfl, y3, b3⟩; have d3 := d2.trans (b3.mono d2.size); have h3 := h2.later b3; clear b3 h2) | (go_at_call_of 40 u3; refine (Q3.out u3 _ y3).mono ?_; rintro e w4 ⟨rfl, b4⟩; have d4 := d3.trans (b4.mono d3.size); have h4 := h3.later b4; clear b4 h3 y3) | (refine wpList_storeH rfl (.tmp 5) (.tmp 15) rfl w4.heap.size (by simp [Act.eval, Act.put]) z24 C z24_len HCL.out (by simp [Act.eval, Act.put]) (HB.zero w4) ?_; intro w5 h5 b5; have d5 := (d4.alloc d4.size _).trans (b5 w.heap.size d4.size); have k5 := (h4.alloc _).below (b5 w4.heap.size (Nat.le_refl _)) h4.lt; clear b5 h4) | (refine wpList_loadHw (by simp [Region.wanted, yielded]) (.tmp 5) rfl w4.heap.size (by simp [Act.eval, Act.put]) C HCL.out (by assumption) ?_) | (go_at_call_of 32 (Value.agg (wdc C).toArray); refine (Q4.out _).mono ?_; rintro e w6 ⟨rfl, b6⟩; have d6 := d5.trans (b6.mono d5.size); clear b6) | (go_at_call_of 40 (Value.slice ao b.length cap); refine (Q5.out _ (HV.out.later d6)).mono ?_; rintro e w7 ⟨rfl, b7⟩; have d7 := d6.trans (b7.mono d6.size); clear b7) | (refine wpList_storeH rfl (.tmp 7) (.tmp 32) rfl w7.heap.size (by simp [Act.eval, Act.put]) z24 P z24_len HPL.out (by simp [Act.eval, Act.put]) (HB.zero w7) ?_; intro w8 h8 b8; have d8 := (d7.alloc d7.size _).trans (b8 w.heap.size d7.size); clear b8) | (refine wpList_loadHw (by simp [Region.wanted, yielded]) (.tmp 7) rfl w7.heap.size (by simp [Act.eval, Act.put]) P HPL.out (by assumption) ?_) | (go_at_call_of 32 (Value.agg (wdc P).toArray); refine (Q6.out _).mono ?_; rintro e w9 ⟨rfl, b9⟩; have d9 := d8.trans (b9.mono d8.size); have h9 := h8.later b9; clear b9) | (go_at_call_of 43 (Value.agg (wdc P).toArray); refine (Q7.out _).mono ?_; rintro e w10 ⟨u10, rfl, y10, b10⟩; have d10 := d9.trans (b10.mono d9.size); clear b10) | (go_at_call 42; refine (equal_any u10 _ b b _ y10 (HV.out.later d10)).mono ?_; rintro e w11 ⟨rfl, b11⟩; have d11 := d10.trans (b11.mono d10.size); clear b11; rw [beq_self_eq_true]) | (go_at_call 39; refine (awake4_any _).mono ?_; rintro e w12 ⟨rfl, b12⟩))
    go_ret
    exact ⟨rfl, d11.trans (b12.mono d11.size)⟩

end Go.Proofs.Ytmpfpolanndakaa
