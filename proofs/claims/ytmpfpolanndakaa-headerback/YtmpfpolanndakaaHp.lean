import Derived.Test.YtmpfpolanndakaaHn
namespace Go.Proofs.Ytmpfpolanndakaa
open Go Go.RowKit
set_option linter.unusedVariables false
set_option linter.unusedSimpArgs false

theorem HB.zero3 (w : World) (o : Obj) : HB ((w.alloc o).alloc (.cells #[.int .u64 0, .int .u64 0, .int .u64 0, .int .u64 0, .int .u64 0, .int .u64 0, .int .u64 0, .int .u64 0, .int .u64 0, .int .u64 0, .int .u64 0, .int .u64 0, .int .u64 0, .int .u64 0, .int .u64 0, .int .u64 0, .int .u64 0, .int .u64 0, .int .u64 0, .int .u64 0, .int .u64 0, .int .u64 0, .int .u64 0, .int .u64 0, .int .u64 0, .int .u64 0, .int .u64 0, .int .u64 0, .int .u64 0, .int .u64 0, .int .u64 0, .int .u64 0, .int .u64 0, .int .u64 0, .int .u64 0, .int .u64 0, .int .u64 0, .int .u64 0, .int .u64 0, .int .u64 0, .int .u64 0, .int .u64 0, .int .u64 0, .int .u64 0, .int .u64 0, .int .u64 0, .int .u64 0, .int .u64 0] 42)) (w.heap.size + 1) z24 := by
  have := HB.zero (w.alloc o); simpa using this

theorem pair_new (w : World) (x y : Value) (t : TypeId) : Pair (w.alloc (.cells #[x, y] t)) w.heap.size x y := ⟨by simp [go_sem], by simp [go_sem], by simp [go_sem], by simp [go_sem]⟩
theorem pair_newD (w : World) (x y : Value) (t : TypeId) : Pair (w.alloc (.cells #[x, y] t)).drew w.heap.size x y := ⟨by simp [go_sem], by simp [go_sem], by simp [go_sem], by simp [go_sem]⟩

set_option maxRecDepth 100000 in
set_option maxHeartbeats 4000000 in
theorem rparse_any (v : Value) (b : List Int) (w : World) (hv' : Bytes w v b) :
    Calls Try.prog 41 #[v] w fun e w' => e = .returned (.tuple #[hv (pr b), .int .i64 (pe b)]) ∧ Below w.heap.size w w' := by
  obtain ⟨ao, cap, rfl⟩ := hv'.short
  have HV := hide_ hv'
  have hB : isB b := by obtain ⟨_, _, _, _, _, h, _⟩ := hv'; exact h
  have hml : b.length ≤ 9223372036854775807 := by obtain ⟨_, h, _, _⟩ := hv'.at; unfold maxLen at *; omega
  clear hv'
  go_enter Try.func41, Try.ntmps41
  go_wp2_with (refine wpList_storeH rfl (.tmp 4) (.tmp 9) rfl (w.heap.size + 1) (by simp [Act.eval, Act.put]) z24 z24 z24_len z24_len (by simp [Act.eval, Act.put]; rfl) (HB.zero3 w _) ?_; intro w0 h0 b0)
  have hZ : Hid (HB w0 w.heap.size z24) := hide_ ((HB.zero2 w _).below (b0 (w.heap.size + 1) (Nat.le_refl _)) (Nat.lt_succ_self _))
  have hA : Hid (HB w0 (w.heap.size + 1) (PK b 0)) := hide_ (by rw [PK_zero]; exact h0)
  have hBe : Hid (Below w.heap.size w w0) := hide_ ((by go_grown : Below w.heap.size w ((w.alloc (.cells #[.int .u64 0, .int .u64 0, .int .u64 0, .int .u64 0, .int .u64 0, .int .u64 0, .int .u64 0, .int .u64 0, .int .u64 0, .int .u64 0, .int .u64 0, .int .u64 0, .int .u64 0, .int .u64 0, .int .u64 0, .int .u64 0, .int .u64 0, .int .u64 0, .int .u64 0, .int .u64 0, .int .u64 0, .int .u64 0, .int .u64 0, .int .u64 0, .int .u64 0, .int .u64 0, .int .u64 0, .int .u64 0, .int .u64 0, .int .u64 0, .int .u64 0, .int .u64 0, .int .u64 0, .int .u64 0, .int .u64 0, .int .u64 0, .int .u64 0, .int .u64 0, .int .u64 0, .int .u64 0, .int .u64 0, .int .u64 0, .int .u64 0, .int .u64 0, .int .u64 0, .int .u64 0, .int .u64 0, .int .u64 0] 42)).alloc (.cells #[.int .u64 0, .int .u64 0, .int .u64 0, .int .u64 0, .int .u64 0, .int .u64 0, .int .u64 0, .int .u64 0, .int .u64 0, .int .u64 0, .int .u64 0, .int .u64 0, .int .u64 0, .int .u64 0, .int .u64 0, .int .u64 0, .int .u64 0, .int .u64 0, .int .u64 0, .int .u64 0, .int .u64 0, .int .u64 0, .int .u64 0, .int .u64 0, .int .u64 0, .int .u64 0, .int .u64 0, .int .u64 0, .int .u64 0, .int .u64 0, .int .u64 0, .int .u64 0, .int .u64 0, .int .u64 0, .int .u64 0, .int .u64 0, .int .u64 0, .int .u64 0, .int .u64 0, .int .u64 0, .int .u64 0, .int .u64 0, .int .u64 0, .int .u64 0, .int .u64 0, .int .u64 0, .int .u64 0, .int .u64 0] 42))).trans (b0 _ (Nat.le_succ _)))
  clear b0 h0
  go_loopw [5, 6] (fun at_ i wr => ∃ k : Nat, k ≤ 24 ∧ i = .int .i64 k ∧ at_ = .int .i64 (offk k : Nat) ∧ Hid (offk k ≤ b.length) ∧ Hid (HB wr w.heap.size z24) ∧ Hid (HB wr (w.heap.size + 1) (PK b k)) ∧ Below w.heap.size w wr) (fun _ i _ => 24 - (intOf i).toNat)
  case atStart => exact ⟨0, Nat.zero_le _, rfl, rfl, hide_ (Nat.zero_le _), hZ, hA, hBe.out⟩
  case round =>
    obtain ⟨k, hk, rfl, rfl, HN, HZ, HA, hb⟩ := hrel
    by_cases hlt : k < 24
    · have hlt' : (k : Int) < 24 := by omega
      have q1 := hide_ (fun w => rsizej (k : Int) w)
      obtain ⟨ub, r1, r2, HY⟩ := bytes_slice HV.out (offk k) HN.out
      have HY := hide_ HY
      have q2 := hide_ (fun w h => rwget_any (.slice ub (b.length - offk k) (cap - offk k)) (b.drop (offk k)) (fsize (k : Int) : Nat) w h)
      rw [gok_k b k hlt HN.out] at q2
      have HPJ : Hid ((PK b k).set k (gx (b.drop (offk k)) (fsize (k : Int) : Nat), gy (b.drop (offk k)) (fsize (k : Int) : Nat)) = PK b (k + 1)) := hide_ (PK_step b k hlt)
      generalize gx (b.drop (offk k)) (fsize (k : Int) : Nat) = X at *
      generalize gy (b.drop (offk k)) (fsize (k : Int) : Nat) = Y at *
      have o95 := offk_le (show k ≤ 24 by omega)
      have s16 := fsize_le (k : Int)
      by_cases hok : offk (k + 1) ≤ b.length
      · rw [decide_eq_true hok] at q2
        have HN2 : Hid (offk (k + 1) ≤ b.length) := hide_ hok
        have HO : Hid (((offk k : Nat) : Int) + ((fsize (k : Int) : Nat) : Int) = ((offk (k + 1) : Nat) : Int)) := hide_ (by show _ = ((offk k + fsize (k : Int) : Nat) : Int); omega)
        have HPA := hide_ (PK_at b k hlt)
        clear hok
        generalize fsize (k : Int) = s at *
        generalize offk k = oo at *
        go_wp2_with fail
        go_region_with (first | (go_at_call 16; refine (q1.out _).mono ?_; rintro e w1 ⟨rfl, b1⟩; have d1 := (by go_grown : Below wr.heap.size wr _).trans (b1.mono (by simp)); first | (have zp : Pair w1 wr.heap.size (.int .u64 0) (.int .u64 0) := (by first | exact (pair_newD wr _ _ _).below b1 (by simp) | exact (pair_new wr _ _ _).below b1 (by simp)); have zq := zp; obtain ⟨z0, z1, z2, z3⟩ := zq) | skip) | (go_at_call 56; refine (q2.out _ (HY.out.later (by first | exact hb.trans (d1.mono hb.size) | exact (hb.trans (d1.mono hb.size)).alloc (Nat.le_trans hb.size d1.size) _))).mono ?_; rintro e w2 ⟨rfl, b2⟩; have d2 : Below wr.heap.size wr w2 := (by first | exact d1.trans (b2.mono d1.size) | exact (d1.alloc d1.size _).trans (b2.mono (by simp; have := d1.size; omega))); first | (have yp : Pair w2 wr.heap.size (.int .u64 0) (.int .u64 0) := zp.later b2; have yq := yp; obtain ⟨y0, y1, y2, y3⟩ := yq) | skip; first | (have xp : Pair w2 w1.heap.size (.int .u64 0) (.int .u64 0) := (by first | exact (pair_newD w1 _ _ _).below b2 (by simp) | exact (pair_new w1 _ _ _).below b2 (by simp)); have xq := xp; obtain ⟨x0, x1, x2, x3⟩ := xq) | skip))
        · have hbw : Below wr.heap.size wr (w2.alloc (.cells #[.int .u64 (X : Int), .int .u64 (Y : Int)] 39)) := d2.alloc d2.size _
          obtain ⟨t0, t1, _, _⟩ : Pair (w2.alloc (.cells #[.int .u64 (X : Int), .int .u64 (Y : Int)] 39)) w2.heap.size (.int .u64 (X : Int)) (.int .u64 (Y : Int)) := pair_new w2 _ _ _
          obtain ⟨c0, c1, c2, c3⟩ := (HA.out.later hbw).cells HPA.out
          generalize w2.alloc (.cells #[.int .u64 (X : Int), .int .u64 (Y : Int)] 39) = W3 at *
          go_wp2_with (go_at_call 16; refine (q1.out _).mono ?_; rintro e w4 ⟨rfl, b4⟩)
          go_roundw
          case rel =>
            have hs2 : Below w.heap.size w ((W3.setCell ⟨w.heap.size + 1, k * 2, none⟩ (.int .u64 (X : Int))).setCell ⟨w.heap.size + 1, k * 2 + 1, none⟩ (.int .u64 (Y : Int))) := ((hb.trans (hbw.mono hb.size)).setCell (Nat.le_succ _) _).setCell (Nat.le_succ _) _
            refine ⟨k + 1, by omega, by go_num, ?_, HN2, hide_ ((((HZ.out.later hbw).far _ (by omega)).far _ (by omega)).later b4), by rw [← HPJ.out]; exact hide_ (((HA.out.later hbw).set k X Y).later b4), hs2.trans (b4.mono hs2.size)⟩
            rw [← HO.out]
          case measure => simp [intOf]; omega
        · have hbw : Below wr.heap.size wr ((w2.setCell ⟨w1.heap.size, 0, none⟩ (.int .u64 (X : Int))).setCell ⟨w1.heap.size, 1, none⟩ (.int .u64 (Y : Int))) := (d2.setCell d1.size _).setCell d1.size _
          obtain ⟨t0, t1, _, _⟩ : Pair ((w2.setCell ⟨w1.heap.size, 0, none⟩ (.int .u64 (X : Int))).setCell ⟨w1.heap.size, 1, none⟩ (.int .u64 (Y : Int))) w1.heap.size (.int .u64 (X : Int)) (.int .u64 (Y : Int)) := xp.set2 _ _
          obtain ⟨c0, c1, c2, c3⟩ := (HA.out.later hbw).cells HPA.out
          clear x0 x1 x2 x3
          generalize (w2.setCell ⟨w1.heap.size, 0, none⟩ (.int .u64 (X : Int))).setCell ⟨w1.heap.size, 1, none⟩ (.int .u64 (Y : Int)) = W3 at *
          go_wp2_with (go_at_call 16; refine (q1.out _).mono ?_; rintro e w4 ⟨rfl, b4⟩)
          go_roundw
          case rel =>
            have hs2 : Below w.heap.size w ((W3.setCell ⟨w.heap.size + 1, k * 2, none⟩ (.int .u64 (X : Int))).setCell ⟨w.heap.size + 1, k * 2 + 1, none⟩ (.int .u64 (Y : Int))) := ((hb.trans (hbw.mono hb.size)).setCell (Nat.le_succ _) _).setCell (Nat.le_succ _) _
            refine ⟨k + 1, by omega, by go_num, ?_, HN2, hide_ ((((HZ.out.later hbw).far _ (by omega)).far _ (by omega)).later b4), by rw [← HPJ.out]; exact hide_ (((HA.out.later hbw).set k X Y).later b4), hs2.trans (b4.mono hs2.size)⟩
            rw [← HO.out]
          case measure => simp [intOf]; omega
        · have hbw : Below wr.heap.size wr ((w2.setCell ⟨wr.heap.size, 0, none⟩ (.int .u64 (X : Int))).setCell ⟨wr.heap.size, 1, none⟩ (.int .u64 (Y : Int))) := (d2.setCell (Nat.le_refl _) _).setCell (Nat.le_refl _) _
          obtain ⟨t0, t1, _, _⟩ : Pair ((w2.setCell ⟨wr.heap.size, 0, none⟩ (.int .u64 (X : Int))).setCell ⟨wr.heap.size, 1, none⟩ (.int .u64 (Y : Int))) wr.heap.size (.int .u64 (X : Int)) (.int .u64 (Y : Int)) := yp.set2 _ _
          obtain ⟨c0, c1, c2, c3⟩ := (HA.out.later hbw).cells HPA.out
          clear y0 y1 y2 y3 z0 z1 z2 z3
          generalize (w2.setCell ⟨wr.heap.size, 0, none⟩ (.int .u64 (X : Int))).setCell ⟨wr.heap.size, 1, none⟩ (.int .u64 (Y : Int)) = W3 at *
          go_wp2_with (go_at_call 16; refine (q1.out _).mono ?_; rintro e w4 ⟨rfl, b4⟩)
          go_roundw
          case rel =>
            have hs2 : Below w.heap.size w ((W3.setCell ⟨w.heap.size + 1, k * 2, none⟩ (.int .u64 (X : Int))).setCell ⟨w.heap.size + 1, k * 2 + 1, none⟩ (.int .u64 (Y : Int))) := ((hb.trans (hbw.mono hb.size)).setCell (Nat.le_succ _) _).setCell (Nat.le_succ _) _
            refine ⟨k + 1, by omega, by go_num, ?_, HN2, hide_ ((((HZ.out.later hbw).far _ (by omega)).far _ (by omega)).later b4), by rw [← HPJ.out]; exact hide_ (((HA.out.later hbw).set k X Y).later b4), hs2.trans (b4.mono hs2.size)⟩
            rw [← HO.out]
          case measure => simp [intOf]; omega
      · rw [decide_eq_false hok] at q2
        have hne : ¬ b.length = 95 := by have := offk_le (show k + 1 ≤ 24 by omega); omega
        obtain ⟨e1, e2⟩ := pr_no hne
        have E1 := hide_ e1
        have E2 := hide_ e2
        clear hok hne e1 e2
        generalize fsize (k : Int) = s at *
        generalize offk k = oo at *
        go_wp2_with fail
        go_region_with (first | (go_at_call 16; refine (q1.out _).mono ?_; rintro e w1 ⟨rfl, b1⟩; have d1 := (by go_grown : Below wr.heap.size wr _).trans (b1.mono (by simp)); first | (have zp : Pair w1 wr.heap.size (.int .u64 0) (.int .u64 0) := (by first | exact (pair_newD wr _ _ _).below b1 (by simp) | exact (pair_new wr _ _ _).below b1 (by simp)); have zq := zp; obtain ⟨z0, z1, z2, z3⟩ := zq) | skip) | (go_at_call 56; refine (q2.out _ (HY.out.later (by first | exact hb.trans (d1.mono hb.size) | exact (hb.trans (d1.mono hb.size)).alloc (Nat.le_trans hb.size d1.size) _))).mono ?_; rintro e w2 ⟨rfl, b2⟩; have d2 : Below wr.heap.size wr w2 := (by first | exact d1.trans (b2.mono d1.size) | exact (d1.alloc d1.size _).trans (b2.mono (by simp; have := d1.size; omega))); first | (have yp : Pair w2 wr.heap.size (.int .u64 0) (.int .u64 0) := zp.later b2; have yq := yp; obtain ⟨y0, y1, y2, y3⟩ := yq) | skip; first | (have xp : Pair w2 w1.heap.size (.int .u64 0) (.int .u64 0) := (by first | exact (pair_newD w1 _ _ _).below b2 (by simp) | exact (pair_new w1 _ _ _).below b2 (by simp)); have xq := xp; obtain ⟨x0, x1, x2, x3⟩ := xq) | skip))
        · have hbw : Below wr.heap.size wr (w2.alloc (.cells #[.int .u64 (X : Int), .int .u64 (Y : Int)] 39)) := d2.alloc d2.size _
          have hZ3 := HZ.out.later hbw
          generalize w2.alloc (.cells #[.int .u64 (X : Int), .int .u64 (Y : Int)] 39) = W3 at *
          go_wp2_with (refine wpList_storeH rfl (.tmp 2) (.tmp 25) rfl w.heap.size (by simp [Act.eval, Act.put]) z24 z24 z24_len z24_len (by simp [Act.eval, Act.put]; rfl) hZ3 ?_; intro w9 h9 b9)
          exact bodyPost_ret (results_H2 Try.results41 _ _ w.heap.size z24 z24_len (.int .i64 4) rfl rfl h9) rfl ⟨by rw [E1.out, E2.out], (hb.trans (hbw.mono hb.size)).trans (b9 _ (Nat.le_refl _))⟩
        · have hbw : Below wr.heap.size wr ((w2.setCell ⟨w1.heap.size, 0, none⟩ (.int .u64 (X : Int))).setCell ⟨w1.heap.size, 1, none⟩ (.int .u64 (Y : Int))) := (d2.setCell d1.size _).setCell d1.size _
          have hZ3 := HZ.out.later hbw
          clear x0 x1 x2 x3
          generalize (w2.setCell ⟨w1.heap.size, 0, none⟩ (.int .u64 (X : Int))).setCell ⟨w1.heap.size, 1, none⟩ (.int .u64 (Y : Int)) = W3 at *
          go_wp2_with (refine wpList_storeH rfl (.tmp 2) (.tmp 25) rfl w.heap.size (by simp [Act.eval, Act.put]) z24 z24 z24_len z24_len (by simp [Act.eval, Act.put]; rfl) hZ3 ?_; intro w9 h9 b9)
          exact bodyPost_ret (results_H2 Try.results41 _ _ w.heap.size z24 z24_len (.int .i64 4) rfl rfl h9) rfl ⟨by rw [E1.out, E2.out], (hb.trans (hbw.mono hb.size)).trans (b9 _ (Nat.le_refl _))⟩
        · have hbw : Below wr.heap.size wr ((w2.setCell ⟨wr.heap.size, 0, none⟩ (.int .u64 (X : Int))).setCell ⟨wr.heap.size, 1, none⟩ (.int .u64 (Y : Int))) := (d2.setCell (Nat.le_refl _) _).setCell (Nat.le_refl _) _
          have hZ3 := HZ.out.later hbw
          clear y0 y1 y2 y3 z0 z1 z2 z3
          generalize (w2.setCell ⟨wr.heap.size, 0, none⟩ (.int .u64 (X : Int))).setCell ⟨wr.heap.size, 1, none⟩ (.int .u64 (Y : Int)) = W3 at *
          go_wp2_with (refine wpList_storeH rfl (.tmp 2) (.tmp 25) rfl w.heap.size (by simp [Act.eval, Act.put]) z24 z24 z24_len z24_len (by simp [Act.eval, Act.put]; rfl) hZ3 ?_; intro w9 h9 b9)
          exact bodyPost_ret (results_H2 Try.results41 _ _ w.heap.size z24 z24_len (.int .i64 4) rfl rfl h9) rfl ⟨by rw [E1.out, E2.out], (hb.trans (hbw.mono hb.size)).trans (b9 _ (Nat.le_refl _))⟩
    · have hlt' : ¬ (k : Int) < 24 := by omega
      have e : k = 24 := by omega
      subst e
      have hge := HN.out
      rw [off24] at hge
      rw [off24]
      clear HN
      by_cases h95 : b.length = 95
      · have q3 := hide_ (fun w => rfits_any (PK b 24) (PK_isH b hB 24) w)
        have HPL := hide_ (PK_len b 24)
        have hne : ((95 : Int) != (b.length : Int)) = false := by rw [h95]; rfl
        have hne' : ((((95 : Nat) : Int)) != (b.length : Int)) = false := hne
        by_cases hf : clip (PK b 24) = PK b 24
        · rw [decide_eq_true hf] at q3
          have hp : pok b = true := by simp [pok, h95, hf]
          have e1 : pr b = PK b 24 := by simp [pr, hp]
          have e2 : pe b = 0 := by simp [pe, hp]
          have E1 := hide_ e1
          have E2 := hide_ e2
          clear hp e1 e2 hf hge h95
          unfold hv at q3
          generalize PK b 24 = P at *
          go_wp2_with (first | (refine wpList_loadHw (by simp [Region.wanted, yielded]) (.tmp 4) rfl (w.heap.size + 1) (by simp [Act.eval, Act.put]) P HPL.out (by first | exact HA.out | exact HA.out.later b1) ?_) | (go_at_call 33; refine (q3.out _).mono ?_; rintro e w1 ⟨rfl, b1⟩) | (refine wpList_storeH rfl (.tmp 2) (.tmp 43) rfl w.heap.size (by simp [Act.eval, Act.put]) z24 P z24_len HPL.out (by simp [Act.eval, Act.put]) (HZ.out.later b1) ?_; intro w9 h9 b9))
          exact bodyPost_ret (results_H2 Try.results41 _ _ w.heap.size P HPL.out (.int .i64 0) rfl rfl h9) rfl ⟨by rw [E1.out, E2.out], (hb.trans (b1.mono hb.size)).trans (b9 _ (Nat.le_refl _))⟩
        · rw [decide_eq_false hf] at q3
          have hp : pok b = false := by simp [pok, hf]
          have e1 : pr b = z24 := by simp [pr, hp]
          have e2 : pe b = 4 := by simp [pe, hp]
          have E1 := hide_ e1
          have E2 := hide_ e2
          clear hp e1 e2 hf hge h95
          unfold hv at q3
          generalize PK b 24 = P at *
          go_wp2_with (first | (refine wpList_loadHw (by simp [Region.wanted, yielded]) (.tmp 4) rfl (w.heap.size + 1) (by simp [Act.eval, Act.put]) P HPL.out (by first | exact HA.out | exact HA.out.later b1) ?_) | (go_at_call 33; refine (q3.out _).mono ?_; rintro e w1 ⟨rfl, b1⟩; have hZ3 := HZ.out.later b1) | (refine wpList_storeH rfl (.tmp 2) (.tmp 42) rfl w.heap.size (by simp [Act.eval, Act.put]) z24 z24 z24_len z24_len (by simp [Act.eval, Act.put]; rfl) hZ3 ?_; intro w9 h9 b9))
          exact bodyPost_ret (results_H2 Try.results41 _ _ w.heap.size z24 z24_len (.int .i64 4) rfl rfl h9) rfl ⟨by rw [E1.out, E2.out], (hb.trans (b1.mono hb.size)).trans (b9 _ (Nat.le_refl _))⟩
      · have hne : ((95 : Int) != (b.length : Int)) = true := by simp; omega
        have hne' : ((((95 : Nat) : Int)) != (b.length : Int)) = true := hne
        obtain ⟨e1, e2⟩ := pr_no h95
        have E1 := hide_ e1
        have E2 := hide_ e2
        clear e1 e2 h95 hge
        go_wp2_with (refine wpList_storeH rfl (.tmp 2) (.tmp 42) rfl w.heap.size (by simp [Act.eval, Act.put]) z24 z24 z24_len z24_len (by simp [Act.eval, Act.put]; rfl) HZ.out ?_; intro w9 h9 b9)
        exact bodyPost_ret (results_H2 Try.results41 _ _ w.heap.size z24 z24_len (.int .i64 4) rfl rfl h9) rfl ⟨by rw [E1.out, E2.out], hb.trans (b9 _ (Nat.le_refl _))⟩

end Go.Proofs.Ytmpfpolanndakaa
