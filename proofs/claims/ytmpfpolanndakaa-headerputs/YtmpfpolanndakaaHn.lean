import Derived.Test.YtmpfpolanndakaaHm
import Derived.RegionTactic
import Derived.ChangeAlike
import Derived.Deep.RegionWith
namespace Go.Proofs.Ytmpfpolanndakaa
open Go Go.RowKit
set_option linter.unusedVariables false
set_option linter.unusedSimpArgs false

theorem ret_tup {a b : Value} {c d : Value} (h : a = c) (k : b = d) : Ending.returned (.tuple #[a, b]) = .returned (.tuple #[c, d]) := by rw [h, k]

set_option maxRecDepth 100000 in
set_option maxHeartbeats 4000000 in
theorem parse_any (v : Value) (b : List Int) (w : World) (hv' : Bytes w v b) :
    Calls Try.prog 40 #[v] w fun e w' => e = .returned (.tuple #[hv (pr b), .int .i64 (pe b)]) ∧ Below w.heap.size w w' := by
  obtain ⟨ao, cap, rfl⟩ := hv'.short
  have HV := hide_ hv'
  have hB : isB b := by obtain ⟨_, _, _, _, _, h, _⟩ := hv'; exact h
  clear hv'
  go_enter Try.func40, Try.ntmps40
  go_wp2
  have hZ : Hid (HB ((w.alloc (.cells #[.int .u64 0, .int .u64 0, .int .u64 0, .int .u64 0, .int .u64 0, .int .u64 0, .int .u64 0, .int .u64 0, .int .u64 0, .int .u64 0, .int .u64 0, .int .u64 0, .int .u64 0, .int .u64 0, .int .u64 0, .int .u64 0, .int .u64 0, .int .u64 0, .int .u64 0, .int .u64 0, .int .u64 0, .int .u64 0, .int .u64 0, .int .u64 0, .int .u64 0, .int .u64 0, .int .u64 0, .int .u64 0, .int .u64 0, .int .u64 0, .int .u64 0, .int .u64 0, .int .u64 0, .int .u64 0, .int .u64 0, .int .u64 0, .int .u64 0, .int .u64 0, .int .u64 0, .int .u64 0, .int .u64 0, .int .u64 0, .int .u64 0, .int .u64 0, .int .u64 0, .int .u64 0, .int .u64 0, .int .u64 0] 42)).alloc (.cells #[.int .u64 0, .int .u64 0, .int .u64 0, .int .u64 0, .int .u64 0, .int .u64 0, .int .u64 0, .int .u64 0, .int .u64 0, .int .u64 0, .int .u64 0, .int .u64 0, .int .u64 0, .int .u64 0, .int .u64 0, .int .u64 0, .int .u64 0, .int .u64 0, .int .u64 0, .int .u64 0, .int .u64 0, .int .u64 0, .int .u64 0, .int .u64 0, .int .u64 0, .int .u64 0, .int .u64 0, .int .u64 0, .int .u64 0, .int .u64 0, .int .u64 0, .int .u64 0, .int .u64 0, .int .u64 0, .int .u64 0, .int .u64 0, .int .u64 0, .int .u64 0, .int .u64 0, .int .u64 0, .int .u64 0, .int .u64 0, .int .u64 0, .int .u64 0, .int .u64 0, .int .u64 0, .int .u64 0, .int .u64 0] 42)) w.heap.size z24) := hide_ (HB.zero2 w _)
  have hA : Hid (HB ((w.alloc (.cells #[.int .u64 0, .int .u64 0, .int .u64 0, .int .u64 0, .int .u64 0, .int .u64 0, .int .u64 0, .int .u64 0, .int .u64 0, .int .u64 0, .int .u64 0, .int .u64 0, .int .u64 0, .int .u64 0, .int .u64 0, .int .u64 0, .int .u64 0, .int .u64 0, .int .u64 0, .int .u64 0, .int .u64 0, .int .u64 0, .int .u64 0, .int .u64 0, .int .u64 0, .int .u64 0, .int .u64 0, .int .u64 0, .int .u64 0, .int .u64 0, .int .u64 0, .int .u64 0, .int .u64 0, .int .u64 0, .int .u64 0, .int .u64 0, .int .u64 0, .int .u64 0, .int .u64 0, .int .u64 0, .int .u64 0, .int .u64 0, .int .u64 0, .int .u64 0, .int .u64 0, .int .u64 0, .int .u64 0, .int .u64 0] 42)).alloc (.cells #[.int .u64 0, .int .u64 0, .int .u64 0, .int .u64 0, .int .u64 0, .int .u64 0, .int .u64 0, .int .u64 0, .int .u64 0, .int .u64 0, .int .u64 0, .int .u64 0, .int .u64 0, .int .u64 0, .int .u64 0, .int .u64 0, .int .u64 0, .int .u64 0, .int .u64 0, .int .u64 0, .int .u64 0, .int .u64 0, .int .u64 0, .int .u64 0, .int .u64 0, .int .u64 0, .int .u64 0, .int .u64 0, .int .u64 0, .int .u64 0, .int .u64 0, .int .u64 0, .int .u64 0, .int .u64 0, .int .u64 0, .int .u64 0, .int .u64 0, .int .u64 0, .int .u64 0, .int .u64 0, .int .u64 0, .int .u64 0, .int .u64 0, .int .u64 0, .int .u64 0, .int .u64 0, .int .u64 0, .int .u64 0] 42)) (w.heap.size + 1) (PK b 0)) := hide_ (by rw [PK_zero]; have := HB.zero (w.alloc (.cells #[.int .u64 0, .int .u64 0, .int .u64 0, .int .u64 0, .int .u64 0, .int .u64 0, .int .u64 0, .int .u64 0, .int .u64 0, .int .u64 0, .int .u64 0, .int .u64 0, .int .u64 0, .int .u64 0, .int .u64 0, .int .u64 0, .int .u64 0, .int .u64 0, .int .u64 0, .int .u64 0, .int .u64 0, .int .u64 0, .int .u64 0, .int .u64 0, .int .u64 0, .int .u64 0, .int .u64 0, .int .u64 0, .int .u64 0, .int .u64 0, .int .u64 0, .int .u64 0, .int .u64 0, .int .u64 0, .int .u64 0, .int .u64 0, .int .u64 0, .int .u64 0, .int .u64 0, .int .u64 0, .int .u64 0, .int .u64 0, .int .u64 0, .int .u64 0, .int .u64 0, .int .u64 0, .int .u64 0, .int .u64 0] 42)); simpa using this)
  have hBe : Hid (Below w.heap.size w ((w.alloc (.cells #[.int .u64 0, .int .u64 0, .int .u64 0, .int .u64 0, .int .u64 0, .int .u64 0, .int .u64 0, .int .u64 0, .int .u64 0, .int .u64 0, .int .u64 0, .int .u64 0, .int .u64 0, .int .u64 0, .int .u64 0, .int .u64 0, .int .u64 0, .int .u64 0, .int .u64 0, .int .u64 0, .int .u64 0, .int .u64 0, .int .u64 0, .int .u64 0, .int .u64 0, .int .u64 0, .int .u64 0, .int .u64 0, .int .u64 0, .int .u64 0, .int .u64 0, .int .u64 0, .int .u64 0, .int .u64 0, .int .u64 0, .int .u64 0, .int .u64 0, .int .u64 0, .int .u64 0, .int .u64 0, .int .u64 0, .int .u64 0, .int .u64 0, .int .u64 0, .int .u64 0, .int .u64 0, .int .u64 0, .int .u64 0] 42)).alloc (.cells #[.int .u64 0, .int .u64 0, .int .u64 0, .int .u64 0, .int .u64 0, .int .u64 0, .int .u64 0, .int .u64 0, .int .u64 0, .int .u64 0, .int .u64 0, .int .u64 0, .int .u64 0, .int .u64 0, .int .u64 0, .int .u64 0, .int .u64 0, .int .u64 0, .int .u64 0, .int .u64 0, .int .u64 0, .int .u64 0, .int .u64 0, .int .u64 0, .int .u64 0, .int .u64 0, .int .u64 0, .int .u64 0, .int .u64 0, .int .u64 0, .int .u64 0, .int .u64 0, .int .u64 0, .int .u64 0, .int .u64 0, .int .u64 0, .int .u64 0, .int .u64 0, .int .u64 0, .int .u64 0, .int .u64 0, .int .u64 0, .int .u64 0, .int .u64 0, .int .u64 0, .int .u64 0, .int .u64 0, .int .u64 0] 42))) := hide_ (by go_grown)
  generalize (w.alloc (.cells #[.int .u64 0, .int .u64 0, .int .u64 0, .int .u64 0, .int .u64 0, .int .u64 0, .int .u64 0, .int .u64 0, .int .u64 0, .int .u64 0, .int .u64 0, .int .u64 0, .int .u64 0, .int .u64 0, .int .u64 0, .int .u64 0, .int .u64 0, .int .u64 0, .int .u64 0, .int .u64 0, .int .u64 0, .int .u64 0, .int .u64 0, .int .u64 0, .int .u64 0, .int .u64 0, .int .u64 0, .int .u64 0, .int .u64 0, .int .u64 0, .int .u64 0, .int .u64 0, .int .u64 0, .int .u64 0, .int .u64 0, .int .u64 0, .int .u64 0, .int .u64 0, .int .u64 0, .int .u64 0, .int .u64 0, .int .u64 0, .int .u64 0, .int .u64 0, .int .u64 0, .int .u64 0, .int .u64 0, .int .u64 0] 42)).alloc (.cells #[.int .u64 0, .int .u64 0, .int .u64 0, .int .u64 0, .int .u64 0, .int .u64 0, .int .u64 0, .int .u64 0, .int .u64 0, .int .u64 0, .int .u64 0, .int .u64 0, .int .u64 0, .int .u64 0, .int .u64 0, .int .u64 0, .int .u64 0, .int .u64 0, .int .u64 0, .int .u64 0, .int .u64 0, .int .u64 0, .int .u64 0, .int .u64 0, .int .u64 0, .int .u64 0, .int .u64 0, .int .u64 0, .int .u64 0, .int .u64 0, .int .u64 0, .int .u64 0, .int .u64 0, .int .u64 0, .int .u64 0, .int .u64 0, .int .u64 0, .int .u64 0, .int .u64 0, .int .u64 0, .int .u64 0, .int .u64 0, .int .u64 0, .int .u64 0, .int .u64 0, .int .u64 0, .int .u64 0, .int .u64 0] 42) = W at *
  have hY : Hid (Bytes w (.slice ao b.length cap) (b.drop (offk 0))) := hide_ (by show Bytes _ _ (b.drop 0); rw [List.drop_zero]; exact HV.out)
  go_loopw [0, 9] (fun v i wr => ∃ (k n : Nat) (ua : Option Addr) (uc : Nat), k ≤ 24 ∧ i = .int .i64 k ∧ v = .slice ua n uc ∧ Hid (n = b.length - offk k ∧ offk k ≤ b.length) ∧ Hid (HB wr w.heap.size z24) ∧ Hid (HB wr (w.heap.size + 1) (PK b k)) ∧ Hid (Bytes w (.slice ua n uc) (b.drop (offk k))) ∧ Below w.heap.size w wr) (fun _ i _ => 24 - (intOf i).toNat)
  case atStart => exact ⟨0, b.length, ao, cap, Nat.zero_le _, rfl, rfl, hide_ ⟨by simp [offk], by simp [offk]⟩, hZ, hA, hY, hBe.out⟩
  case round =>
    obtain ⟨k, n, ua, uc, hk, rfl, rfl, HN, HZ, HA, HY, hb⟩ := hrel
    by_cases hlt : k < 24
    · have hlt' : (k : Int) < 24 := by omega
      have q1 := hide_ (fun w => fsize_any (k : Int) w)
      have q2 := hide_ (fun w h => wget_any (.slice ua n uc) (b.drop (offk k)) (fsize (k : Int) : Nat) w h)
      rw [gok_k b k hlt HN.out.2] at q2
      have HPJ : Hid ((PK b k).set k (gx (b.drop (offk k)) (fsize (k : Int) : Nat), gy (b.drop (offk k)) (fsize (k : Int) : Nat)) = PK b (k + 1)) := hide_ (PK_step b k hlt)
      generalize gx (b.drop (offk k)) (fsize (k : Int) : Nat) = X at *
      generalize gy (b.drop (offk k)) (fsize (k : Int) : Nat) = Y at *
      by_cases hok : offk (k + 1) ≤ b.length
      · rw [decide_eq_true hok] at q2
        have hs : fsize (k : Int) ≤ (b.drop (offk k)).length := by simp only [List.length_drop]; have : offk (k + 1) = offk k + fsize (k : Int) := rfl; omega
        obtain ⟨ub, r1, r2, HY2⟩ := bytes_slice HY.out (fsize (k : Int)) hs
        have HY2 := hide_ HY2
        have HD : Hid ((b.drop (offk k)).drop (fsize (k : Int)) = b.drop (offk (k + 1))) := hide_ (by rw [List.drop_drop]; rfl)
        have HN2 : Hid (n - fsize (k : Int) = b.length - offk (k + 1) ∧ offk (k + 1) ≤ b.length) := hide_ ⟨by have := HN.out.1; have : offk (k + 1) = offk k + fsize (k : Int) := rfl; omega, hok⟩
        have HPA := hide_ (PK_at b k hlt)
        clear hok hs
        generalize fsize (k : Int) = s at *
        go_wp2_with (first | (go_at_call 15; refine (q1.out _).mono ?_; rintro e w1 ⟨rfl, b1⟩) | (go_at_call 55; refine (q2.out _ (HY.out.later (hb.trans (b1.mono hb.size)))).mono ?_; rintro e w2 ⟨rfl, b2⟩))
        have hbw : Below wr.heap.size wr (w2.alloc (.cells #[.int .u64 (X : Int), .int .u64 (Y : Int)] 39)) := (b1.trans (b2.mono b1.size)).alloc (Nat.le_trans b1.size b2.size) _
        have t0 : (w2.alloc (.cells #[.int .u64 (X : Int), .int .u64 (Y : Int)] 39)).cell? ⟨w2.heap.size, 0, none⟩ = some (.int .u64 (X : Int)) := by simp [go_sem]
        have t1 : (w2.alloc (.cells #[.int .u64 (X : Int), .int .u64 (Y : Int)] 39)).cell? ⟨w2.heap.size, 1, none⟩ = some (.int .u64 (Y : Int)) := by simp [go_sem]
        obtain ⟨c0, c1, c2, c3⟩ := (HA.out.later hbw).cells HPA.out
        generalize w2.alloc (.cells #[.int .u64 (X : Int), .int .u64 (Y : Int)] 39) = W3 at *
        go_region
        all_goals
          go_wp2
          go_roundw
          case rel => exact ⟨k + 1, n - s, ub, uc - s, by omega, by go_num, rfl, HN2, hide_ (((HZ.out.later hbw).far _ (by omega)).far _ (by omega)), by rw [← HPJ.out]; exact hide_ ((HA.out.later hbw).set k X Y), by rw [← HD.out]; exact HY2, (((hb.trans (hbw.mono hb.size)).setCell (Nat.le_succ _) _).setCell (Nat.le_succ _) _).drew⟩
          case measure => simp [intOf]; omega
      · rw [decide_eq_false hok] at q2
        have hne : ¬ b.length = 95 := by have := offk_le (show k + 1 ≤ 24 by omega); omega
        obtain ⟨e1, e2⟩ := pr_no hne
        have E1 := hide_ e1
        have E2 := hide_ e2
        clear hok hne e1 e2
        generalize fsize (k : Int) = s at *
        go_wp2_with (first | (go_at_call 15; refine (q1.out _).mono ?_; rintro e w1 ⟨rfl, b1⟩) | (go_at_call 55; refine (q2.out _ (HY.out.later (hb.trans (b1.mono hb.size)))).mono ?_; rintro e w2 ⟨rfl, b2⟩; have hbw : Below wr.heap.size wr (w2.alloc (.cells #[.int .u64 (X : Int), .int .u64 (Y : Int)] 39)) := (b1.trans (b2.mono b1.size)).alloc (Nat.le_trans b1.size b2.size) _; have hZ3 := HZ.out.later hbw) | (refine wpList_storeH rfl (.tmp 2) (.tmp 22) rfl w.heap.size (by simp [Act.eval, Act.put]) z24 z24 z24_len z24_len (by simp [Act.eval, Act.put]; rfl) (by first | exact HZ.out | exact hZ3) ?_; intro w9 h9 b9))
        exact bodyPost_ret (results_H2 Try.results40 _ _ w.heap.size z24 z24_len (.int .i64 4) rfl rfl h9) rfl ⟨by rw [E1.out, E2.out], (hb.trans (hbw.mono hb.size)).trans (b9 _ (Nat.le_refl _))⟩
    · have hlt' : ¬ (k : Int) < 24 := by omega
      have e : k = 24 := by omega
      subst e
      obtain ⟨hn, hge⟩ := HN.out
      rw [off24] at hn hge
      clear HN
      by_cases h95 : b.length = 95
      · have hn0 : n = 0 := by omega
        subst hn0
        have q3 := hide_ (fun w => fits_any (PK b 24) (PK_isH b hB 24) w)
        have HPL := hide_ (PK_len b 24)
        by_cases hf : clip (PK b 24) = PK b 24
        · rw [decide_eq_true hf] at q3
          have hp : pok b = true := by simp [pok, h95, hf]
          have e1 : pr b = PK b 24 := by simp [pr, hp]
          have e2 : pe b = 0 := by simp [pe, hp]
          have E1 := hide_ e1
          have E2 := hide_ e2
          clear hp e1 e2 hf hn hge h95
          unfold hv at q3
          generalize PK b 24 = P at *
          go_wp2_with (first | (refine wpList_loadHw (by simp [Region.wanted, yielded]) (.tmp 4) rfl (w.heap.size + 1) (by simp [Act.eval, Act.put]) P HPL.out (by first | exact HA.out | exact HA.out.later b1) ?_) | (go_at_call 32; refine (q3.out _).mono ?_; rintro e w1 ⟨rfl, b1⟩) | (refine wpList_storeH rfl (.tmp 2) (.tmp 39) rfl w.heap.size (by simp [Act.eval, Act.put]) z24 P z24_len HPL.out (by simp [Act.eval, Act.put]) (HZ.out.later b1) ?_; intro w9 h9 b9))
          exact bodyPost_ret (results_H2 Try.results40 _ _ w.heap.size P HPL.out (.int .i64 0) rfl rfl h9) rfl ⟨by rw [E1.out, E2.out], (hb.trans (b1.mono hb.size)).trans (b9 _ (Nat.le_refl _))⟩
        · rw [decide_eq_false hf] at q3
          have hp : pok b = false := by simp [pok, hf]
          have e1 : pr b = z24 := by simp [pr, hp]
          have e2 : pe b = 4 := by simp [pe, hp]
          have E1 := hide_ e1
          have E2 := hide_ e2
          clear hp e1 e2 hf hn hge h95
          unfold hv at q3
          generalize PK b 24 = P at *
          go_wp2_with (first | (refine wpList_loadHw (by simp [Region.wanted, yielded]) (.tmp 4) rfl (w.heap.size + 1) (by simp [Act.eval, Act.put]) P HPL.out (by first | exact HA.out | exact HA.out.later b1) ?_) | (go_at_call 32; refine (q3.out _).mono ?_; rintro e w1 ⟨rfl, b1⟩; have hZ3 := HZ.out.later b1) | (refine wpList_storeH rfl (.tmp 2) (.tmp 38) rfl w.heap.size (by simp [Act.eval, Act.put]) z24 z24 z24_len z24_len (by simp [Act.eval, Act.put]; rfl) hZ3 ?_; intro w9 h9 b9))
          exact bodyPost_ret (results_H2 Try.results40 _ _ w.heap.size z24 z24_len (.int .i64 4) rfl rfl h9) rfl ⟨by rw [E1.out, E2.out], (hb.trans (b1.mono hb.size)).trans (b9 _ (Nat.le_refl _))⟩
      · have hn0 : (0 : Int) < (n : Int) := by omega
        obtain ⟨e1, e2⟩ := pr_no h95
        have E1 := hide_ e1
        have E2 := hide_ e2
        clear e1 e2 h95 hn hge
        go_wp2_with (refine wpList_storeH rfl (.tmp 2) (.tmp 38) rfl w.heap.size (by simp [Act.eval, Act.put]) z24 z24 z24_len z24_len (by simp [Act.eval, Act.put]; rfl) HZ.out ?_; intro w9 h9 b9)
        exact bodyPost_ret (results_H2 Try.results40 _ _ w.heap.size z24 z24_len (.int .i64 4) rfl rfl h9) rfl ⟨by rw [E1.out, E2.out], hb.trans (b9 _ (Nat.le_refl _))⟩

end Go.Proofs.Ytmpfpolanndakaa
