import Derived.Test.YtfeioclnhnipmaaPj
import Derived.Deep.RegionHeld3
import Derived.Deep.RegionWith
import Derived.Deep.MidRow
import Derived.Deep.Cut
namespace Go.Proofs.Ytfeioclnhnipmaa
open Go Go.RowKit
set_option linter.unusedVariables false
set_option linter.unusedSimpArgs false

set_option maxRecDepth 100000 in
set_option maxHeartbeats 8000000 in
theorem fback_1 (k c : Int) (hk : 0 ≤ k ∧ k ≤ 65535) (hc : 0 ≤ c ∧ c ≤ 65535) (v : Value) (m : List Int) (w : World) (hB : Bytes w v m) (hy : 8 ≤ m.length ∧ m.length < 64) :
    Calls Try.prog 5 #[.int .u16 k, .int .u16 c, v] w fun e w' => e = .returned (.bool true) ∧ Below w.heap.size w w' := by
  obtain ⟨ao, cap, rfl⟩ := hB.short
  have hm := hB.isB_
  have hwk : IntKind.i64.wrap k = k := by rw [IntKind.wrap_i64]; omega
  have hwc : IntKind.i64.wrap c = c := by rw [IntKind.wrap_i64]; omega
  have rk : rightB k 2 = true := rightB_in2 hk.1 (by omega)
  have rc : rightB c 2 = true := rightB_in2 hc.1 (by omega)
  have hB1 := bodyF_isB rk rc hm
  have qr : Hid (∀ W, Below w.heap.size w W → Calls Try.prog 8 #[.agg #[.bool true, .int .i64 k, .int .i64 c], .slice ao m.length cap] W fun e w' => ∃ a cc, e = .returned (.slice a (replyF k c m).length cc) ∧ Bytes w' (.slice a (replyF k c m).length cc) (replyF k c m) ∧ Below W.heap.size W w') := hide_ (fun W hW => (freply_yes true k c (.slice ao m.length cap) m W (hB.later hW) (by unfold replyR; rw [rk, rc]; rfl)).mono (by
    rintro e w' ⟨a, cc, rfl, o, b⟩
    exact ⟨a, cc, rfl, Bytes.ofOwn o (replyF_isB rk rc hm), b⟩))
  have qL : Hid (∀ (v : Value) W, Bytes W v (replyF k c m) → Calls Try.prog 16 #[v] W fun e w' => ∃ g cc, e = .returned (.slice (some ⟨g, 0, none⟩) 1 cc) ∧ Below W.heap.size W w') := hide_ (fun v W h => (list_any v (replyF k c m) [] [replyF k c m] W h (by rw [replyF_len]; omega) (reply_cuts k c m)).mono (by
    rintro e w' ⟨u, rfl, R, -, b⟩
    obtain ⟨g, cc, a, d, rfl, -⟩ := rows_one R (by rw [replyF_len]; omega)
    exact ⟨g, cc, rfl, b⟩))
  have qp : Hid (∀ (v : Value) W, Bytes W v (bodyF k c m) → Calls Try.prog 14 #[v] W fun e w' => ∃ a cc, e = .returned (.tuple #[.agg #[.bool true, .int .i64 k, .int .i64 c], .slice a (m.take 64).length cc, .bool true]) ∧ Bytes w' (.slice a (m.take 64).length cc) (m.take 64) ∧ Below W.heap.size W w') := hide_ (fun v W h => (fparse_ok v (bodyF k c m) W h (by rw [bodyF_len]; omega) (by rw [bodyF_len]; omega)).mono (by
    rintro e w' ⟨a, cc, rfl, h, b⟩
    have e1 : be2 (bodyF k c m) 0 = k := be2_codes k c _ hk
    have e2 : be2 (bodyF k c m) 2 = c := be2_codes2 k c _ hc
    have e3 : (bodyF k c m).length - 4 = (m.take 64).length := by rw [← body_drop k c m, List.length_drop]
    rw [body_drop, e3] at h
    exact ⟨a, cc, by rw [e1, e2, e3], h, b⟩))
  obtain ⟨-, sl, hMT⟩ := bytes_take hB m.length (by omega)
  have e64 : m.take m.length = m.take 64 := by rw [List.take_of_length_le (Nat.le_refl _), List.take_of_length_le (by omega)]
  rw [e64] at hMT
  have HMT := hide_ hMT
  have sl : ∀ wx, (Instr.slice 24 (.slice ao m.length cap) none (some (.int .i64 (m.length : Int))) none).run Try.prog wx = .ok (.slice ao m.length cap) wx := sl
  obtain ⟨m4, sm4, hm4⟩ := bytes_mid hB 4 8 (by omega) (by omega)
  have sm4 : ∀ wx, (Instr.slice 24 (.slice ao m.length cap) (some (.int .i64 4)) (some (.int .i64 8)) none).run Try.prog wx = .ok (.slice m4 4 (cap - 4)) wx := sm4
  have emid := hide_ (reply_mid k c m hm (by omega))
  have HM4 : Hid (Bytes w (.slice m4 4 (cap - 4)) ((m.take 8).drop 4)) := hide_ hm4
  have hml : m.length ≤ 4000 := by omega
  have h7' : ¬ (4000 : Int) < (m.length : Int) := by omega
  have h8' : (8 : Int) ≤ (m.length : Int) := by omega
  have h64 : ¬ (64 : Int) ≤ (m.length : Int) := by omega
  have hlen := hide_ (replyF_len k c m)
  have edrop := hide_ (reply_drop k c m)
  clear hB hm rk rc hB1 hMT e64 hy hk hc hml hm4
  generalize replyF k c m = R at *
  generalize bodyF k c m = D at *
  generalize m.take 64 = Y at *
  generalize (m.take 8).drop 4 = X at *
  obtain ⟨N, hN⟩ : ∃ N, R.length = N := ⟨_, rfl⟩
  obtain ⟨P, hP⟩ : ∃ P, Y.length = P := ⟨_, rfl⟩
  rw [hN] at qr
  rw [hP] at qp
  have hN12 : ¬ (N : Int) < 12 := by have := hlen.out; omega
  have hN8 : 12 ≤ R.length := by have := hlen.out; omega
  go_enter Try.func5, Try.ntmps5
  go_upto_region 4 with (first | (go_at_call 10; refine (fof_any k c _).mono ?_; rintro e w1 ⟨rfl, b1⟩; have k1 := hide_ b1; clear b1) | (go_at_call 8; refine (qr.out _ k1.out).mono ?_; rintro e w2 ⟨a7, c7, rfl, h7, b2⟩; have k2 := hide_ (k1.out.trans (b2.mono k1.out.size)); have H7 := hide_ h7; clear b2))
  obtain ⟨a8, s8, h8⟩ := bytes_drop4 H7.out 8 (by omega) (by omega)
  rw [edrop.out] at h8
  have s8 : ∀ wx, (Instr.slice 24 (.slice a7 N c7) (some (.int .i64 8)) none none).run Try.prog wx = .ok (.slice a8 (N - 8) (c7 - 8)) wx := s8
  have H8 := hide_ h8
  obtain ⟨a4, s4, h4⟩ := bytes_mid H7.out 4 8 (by omega) (by omega)
  rw [emid.out] at h4
  have s4 : ∀ wx, (Instr.slice 24 (.slice a7 N c7) (some (.int .i64 4)) (some (.int .i64 8)) none).run Try.prog wx = .ok (.slice a4 4 (c7 - 4)) wx := s4
  have H4 : Hid (Bytes w2 (.slice a4 4 (c7 - 4)) X) := hide_ h4
  clear h7 h8 hN8 h4
  refine wp_region_held_drew (S := (fun w' => Below w2.heap.size w2 w')) (by kernel_rfl) ((Below.refl _ _).drew) (fun hHeld => ?_)
  have kb0 : Below w2.heap.size w2 w2.drew := (Below.refl _ _).drew
  generalize w2.drew = D0 at *
  refine takeR (i := 0) (v := ?_) rfl (by kernel_rfl) (by kernel_rfl) (by kernel_rfl) (some 22) rfl (Or.inl ⟨by rfl, ?_⟩) (fun _ _ _ h => h) (by assumption) ?_
  rotate_left
  · intro w hSw; (try dsimp only at hSw); go_simp; (try with_reducible rfl)
  simp only [Act.put, List.setIfInBounds_toArray, List.set_cons_zero, List.set_cons_succ]
  refine takeR (i := 1) (v := ?_) rfl (by kernel_rfl) (by kernel_rfl) (by kernel_rfl) (some 23) rfl (Or.inl ⟨by rfl, ?_⟩) (fun _ _ _ h => h) (by assumption) ?_
  rotate_left
  · intro w hSw; (try dsimp only at hSw); go_simp; (try with_reducible rfl)
  simp only [Act.put, List.setIfInBounds_toArray, List.set_cons_zero, List.set_cons_succ]
  refine takeR (i := 2) (v := .bool false) rfl (by kernel_rfl) (by kernel_rfl) (by kernel_rfl) (some 24) rfl (Or.inl ⟨by rfl, ?_⟩) (fun _ _ _ h => h) (by assumption) ?_
  · intro w hSw; (try dsimp only at hSw); have hh := hN12; go_simp; (try with_reducible rfl)
  simp only [Act.put, List.setIfInBounds_toArray, List.set_cons_zero, List.set_cons_succ]
  refine takeR (i := 3) (v := ?_) rfl (by kernel_rfl) (by kernel_rfl) (by kernel_rfl) (some 25) rfl (Or.inl ⟨by rfl, ?_⟩) (fun _ _ _ h => h) (by assumption) ?_
  rotate_left
  · intro w hSw; (try dsimp only at hSw); go_simp; (try with_reducible rfl)
  simp only [Act.put, List.setIfInBounds_toArray, List.set_cons_zero, List.set_cons_succ]
  refine takeR (i := 4) (v := ?_) rfl (by kernel_rfl) (by kernel_rfl) (by kernel_rfl) (some 26) rfl (Or.inl ⟨by rfl, ?_⟩) (fun _ _ _ h => h) (by assumption) ?_
  rotate_left
  · intro w hSw; (try dsimp only at hSw); go_simp; (try with_reducible rfl)
  simp only [Act.put, List.setIfInBounds_toArray, List.set_cons_zero, List.set_cons_succ]
  refine wpAnyH_ready (rs := [5]) (by kernel_rfl) (by simp) ?_
  refine AllReadyH.cons rfl (fun K hK => ?_) (AllReadyH.nil)
  go_simp
  go_at_call 16
  refine (qL.out _ _ (H7.out.later kb0)).mono ?_
  rintro e D1 ⟨gL, cL, rfl, bj⟩
  refine hK.out _ _ (kb0.trans (bj.mono kb0.size)) (fun hHeld => ?_)
  clear hK K
  try simp only [Act.put, List.setIfInBounds_toArray, List.set_cons_zero, List.set_cons_succ]
  have kb1 := kb0.trans (bj.mono kb0.size)
  clear bj
  refine takeR (i := 6) (v := ?_) rfl (by kernel_rfl) (by kernel_rfl) (by kernel_rfl) (some 28) rfl (Or.inl ⟨by rfl, ?_⟩) (fun _ _ _ h => h) (by assumption) ?_
  rotate_left
  · intro w hSw; (try dsimp only at hSw); go_simp; (try with_reducible rfl)
  simp only [Act.put, List.setIfInBounds_toArray, List.set_cons_zero, List.set_cons_succ]
  refine takeR (i := 7) (v := ?_) rfl (by kernel_rfl) (by kernel_rfl) (by kernel_rfl) (some 29) rfl (Or.inl ⟨by rfl, ?_⟩) (fun _ _ _ h => h) (by assumption) ?_
  rotate_left
  · intro w hSw; (try dsimp only at hSw); go_simp; (try with_reducible rfl)
  simp only [Act.put, List.setIfInBounds_toArray, List.set_cons_zero, List.set_cons_succ]
  refine takeR (i := 8) (v := ?_) rfl (by kernel_rfl) (by kernel_rfl) (by kernel_rfl) (some 30) rfl (Or.inl ⟨by rfl, ?_⟩) (fun _ _ _ h => h) (by assumption) ?_
  rotate_left
  · intro w hSw; (try dsimp only at hSw); go_simp; (try with_reducible rfl)
  simp only [Act.put, List.setIfInBounds_toArray, List.set_cons_zero, List.set_cons_succ]
  refine takeR (i := 9) (v := ?_) rfl (by kernel_rfl) (by kernel_rfl) (by kernel_rfl) (some 31) rfl (Or.inl ⟨by rfl, ?_⟩) (fun _ _ _ h => h) (by assumption) ?_
  rotate_left
  · intro w hSw; (try dsimp only at hSw); go_simp; (try with_reducible rfl)
  simp only [Act.put, List.setIfInBounds_toArray, List.set_cons_zero, List.set_cons_succ]
  refine takeR (i := 10) (v := ?_) rfl (by kernel_rfl) (by kernel_rfl) (by kernel_rfl) (some 32) rfl (Or.inl ⟨by rfl, ?_⟩) (fun _ _ _ h => h) (by assumption) ?_
  rotate_left
  · intro w hSw; (try dsimp only at hSw); go_simp; (try with_reducible rfl)
  simp only [Act.put, List.setIfInBounds_toArray, List.set_cons_zero, List.set_cons_succ]
  refine takeR (i := 11) (v := ?_) rfl (by kernel_rfl) (by kernel_rfl) (by kernel_rfl) (some 33) rfl (Or.inl ⟨by rfl, ?_⟩) (fun _ _ _ h => h) (by assumption) ?_
  rotate_left
  · intro w hSw; (try dsimp only at hSw); go_simp; (try with_reducible rfl)
  simp only [Act.put, List.setIfInBounds_toArray, List.set_cons_zero, List.set_cons_succ]
  refine takeR (i := 12) (v := .bool true) rfl (by kernel_rfl) (by kernel_rfl) (by kernel_rfl) (some 34) rfl (Or.inl ⟨by rfl, ?_⟩) (fun _ _ _ h => h) (by assumption) ?_
  · intro w hSw; (try dsimp only at hSw); have hh := h8'; go_simp; (try with_reducible rfl)
  simp only [Act.put, List.setIfInBounds_toArray, List.set_cons_zero, List.set_cons_succ]
  refine takeR (i := 13) (v := ?_) rfl (by kernel_rfl) (by kernel_rfl) (by kernel_rfl) (some 35) rfl (Or.inl ⟨by rfl, ?_⟩) (fun _ _ _ h => h) (by assumption) ?_
  rotate_left
  · intro w hSw; (try dsimp only at hSw); go_simp; (try with_reducible rfl)
  simp only [Act.put, List.setIfInBounds_toArray, List.set_cons_zero, List.set_cons_succ]
  refine takeR (i := 14) (v := ?_) rfl (by kernel_rfl) (by kernel_rfl) (by kernel_rfl) (some 36) rfl (Or.inl ⟨by rfl, ?_⟩) (fun _ _ _ h => h) (by assumption) ?_
  rotate_left
  · intro w hSw; (try dsimp only at hSw); go_simp; (try with_reducible rfl)
  simp only [Act.put, List.setIfInBounds_toArray, List.set_cons_zero, List.set_cons_succ]
  refine takeR (i := 15) (v := ?_) rfl (by kernel_rfl) (by kernel_rfl) (by kernel_rfl) (some 37) rfl (Or.inl ⟨by rfl, ?_⟩) (fun _ _ _ h => h) (by assumption) ?_
  rotate_left
  · intro w hSw; (try dsimp only at hSw); go_simp; (try with_reducible rfl)
  simp only [Act.put, List.setIfInBounds_toArray, List.set_cons_zero, List.set_cons_succ]
  refine takeR (i := 16) (v := ?_) rfl (by kernel_rfl) (by kernel_rfl) (by kernel_rfl) (some 38) rfl (Or.inl ⟨by rfl, ?_⟩) (fun _ _ _ h => h) (by assumption) ?_
  rotate_left
  · intro w hSw; (try dsimp only at hSw); go_simp; (try with_reducible rfl)
  simp only [Act.put, List.setIfInBounds_toArray, List.set_cons_zero, List.set_cons_succ]
  refine takeR (i := 17) (v := ?_) rfl (by kernel_rfl) (by kernel_rfl) (by kernel_rfl) (some 39) rfl (Or.inl ⟨by rfl, ?_⟩) (fun _ _ _ h => h) (by assumption) ?_
  rotate_left
  · intro w hSw; (try dsimp only at hSw); go_simp; (try with_reducible rfl)
  simp only [Act.put, List.setIfInBounds_toArray, List.set_cons_zero, List.set_cons_succ]
  refine wpAnyH_ready (rs := [18]) (by kernel_rfl) (by simp) ?_
  refine AllReadyH.cons rfl (fun K hK => ?_) (AllReadyH.nil)
  go_simp
  go_at_call 7
  refine (bequal_any _ _ X X _ (H4.out.later kb1) ((HM4.out.later k2.out).later kb1)).mono ?_
  rintro e D2 ⟨rfl, e9⟩
  have bj : Below D1.heap.size D1 D2 := by rw [e9]; exact Below.refl _ _
  clear e9
  refine hK.out _ _ (kb1.trans (bj.mono kb1.size)) (fun hHeld => ?_)
  clear hK K
  try simp only [Act.put, List.setIfInBounds_toArray, List.set_cons_zero, List.set_cons_succ]
  have kb2 := kb1.trans (bj.mono kb1.size)
  clear bj
  refine takeR (i := 19) (v := ?_) rfl (by kernel_rfl) (by kernel_rfl) (by kernel_rfl) (some 41) rfl (Or.inl ⟨by rfl, ?_⟩) (fun _ _ _ h => h) (by assumption) ?_
  rotate_left
  · intro w hSw; (try dsimp only at hSw); go_simp; (try with_reducible rfl)
  simp only [Act.put, List.setIfInBounds_toArray, List.set_cons_zero, List.set_cons_succ]
  refine takeR (i := 20) (v := ?_) rfl (by kernel_rfl) (by kernel_rfl) (by kernel_rfl) (some 42) rfl (Or.inl ⟨by rfl, ?_⟩) (fun _ _ _ h => h) (by assumption) ?_
  rotate_left
  · intro w hSw; (try dsimp only at hSw); go_simp; (try with_reducible rfl)
  simp only [Act.put, List.setIfInBounds_toArray, List.set_cons_zero, List.set_cons_succ]
  refine takeR (i := 21) (v := ?_) rfl (by kernel_rfl) (by kernel_rfl) (by kernel_rfl) (some 43) rfl (Or.inl ⟨by rfl, ?_⟩) (fun _ _ _ h => h) (by assumption) ?_
  rotate_left
  · intro w hSw; (try dsimp only at hSw); go_simp; (try with_reducible rfl)
  simp only [Act.put, List.setIfInBounds_toArray, List.set_cons_zero, List.set_cons_succ]
  refine wpAnyH_done (by kernel_rfl) ?_ _
  have k3 := hide_ (k2.out.trans ((kb2).mono k2.out.size))
  replace H8 := hide_ (H8.out.later (kb2))
  clear kb0 kb1 kb2
  generalize D2 = w3 at *
  go_upto_region 7 with (go_at_call 14; refine (qp.out _ _ H8.out).mono ?_; rintro e w4 ⟨a9, c9, rfl, h9, b4⟩; have k4 := hide_ (k3.out.trans (b4.mono k3.out.size)); have H9 := hide_ h9; clear b4 h9)
  have A4 := hide_ (AB.at0 w4 23 [.bool true, .int .i64 k, .int .i64 c])
  have k5 := hide_ (k4.out.trans ((below1 w4 (.cells #[.bool true, .int .i64 k, .int .i64 c] 23)).mono k4.out.size))
  have H9 := hide_ (H9.out.later (below1 w4 (.cells #[.bool true, .int .i64 k, .int .i64 c] 23)))
  generalize w4.alloc (.cells #[.bool true, .int .i64 k, .int .i64 c] 23) = w5 at *
  obtain ⟨x0, x1, x2, -⟩ := A4.out.three
  refine wp_region_held_drew (S := (fun w' => Below w5.heap.size w5 w')) (by kernel_rfl) ((Below.refl _ _).drew) (fun hHeld => ?_)
  have kb0 : Below w5.heap.size w5 w5.drew := (Below.refl _ _).drew
  generalize w5.drew = E0 at *
  refine takeR (i := 0) (v := ?_) rfl (by kernel_rfl) (by kernel_rfl) (by kernel_rfl) (some 51) rfl (Or.inl ⟨by rfl, ?_⟩) (fun _ _ _ h => h) (by assumption) ?_
  rotate_left
  · intro w hSw; (try dsimp only at hSw); go_simp; (try with_reducible rfl)
  simp only [Act.put, List.setIfInBounds_toArray, List.set_cons_zero, List.set_cons_succ]
  refine takeR (i := 1) (v := ?_) rfl (by kernel_rfl) (by kernel_rfl) (by kernel_rfl) (some 52) rfl (Or.inl ⟨by rfl, ?_⟩) (fun _ _ _ h => h) (by assumption) ?_
  rotate_left
  · intro w hSw; (try dsimp only at hSw); go_simp; (try with_reducible rfl)
  simp only [Act.put, List.setIfInBounds_toArray, List.set_cons_zero, List.set_cons_succ]
  refine takeR (i := 2) (v := ?_) rfl (by kernel_rfl) (by kernel_rfl) (by kernel_rfl) (some 53) rfl (Or.inl ⟨by rfl, ?_⟩) (fun _ _ _ h => h) (by assumption) ?_
  rotate_left
  · intro w hSw; (try dsimp only at hSw); have hc0 := cell_later hSw x0; have hc1 := cell_later hSw x1; have hc2 := cell_later hSw x2; go_simp; (try with_reducible rfl)
  simp only [Act.put, List.setIfInBounds_toArray, List.set_cons_zero, List.set_cons_succ]
  refine takeR (i := 3) (v := ?_) rfl (by kernel_rfl) (by kernel_rfl) (by kernel_rfl) (some 54) rfl (Or.inl ⟨by rfl, ?_⟩) (fun _ _ _ h => h) (by assumption) ?_
  rotate_left
  · intro w hSw; (try dsimp only at hSw); go_simp; (try with_reducible rfl)
  simp only [Act.put, List.setIfInBounds_toArray, List.set_cons_zero, List.set_cons_succ]
  refine takeR (i := 4) (v := ?_) rfl (by kernel_rfl) (by kernel_rfl) (by kernel_rfl) (some 55) rfl (Or.inl ⟨by rfl, ?_⟩) (fun _ _ _ h => h) (by assumption) ?_
  rotate_left
  · intro w hSw; (try dsimp only at hSw); go_simp; (try with_reducible rfl)
  simp only [Act.put, List.setIfInBounds_toArray, List.set_cons_zero, List.set_cons_succ]
  refine takeR (i := 5) (v := ?_) rfl (by kernel_rfl) (by kernel_rfl) (by kernel_rfl) (some 56) rfl (Or.inl ⟨by rfl, ?_⟩) (fun _ _ _ h => h) (by assumption) ?_
  rotate_left
  · intro w hSw; (try dsimp only at hSw); go_simp; (try with_reducible rfl)
  simp only [Act.put, List.setIfInBounds_toArray, List.set_cons_zero, List.set_cons_succ]
  refine takeR (i := 6) (v := ?_) rfl (by kernel_rfl) (by kernel_rfl) (by kernel_rfl) (some 57) rfl (Or.inl ⟨by rfl, ?_⟩) (fun _ _ _ h => h) (by assumption) ?_
  rotate_left
  · intro w hSw; (try dsimp only at hSw); go_simp; (try with_reducible rfl)
  simp only [Act.put, List.setIfInBounds_toArray, List.set_cons_zero, List.set_cons_succ]
  refine wpAnyH_ready (rs := [7]) (by kernel_rfl) (by simp) ?_
  refine AllReadyH.cons rfl (fun K hK => ?_) (AllReadyH.nil)
  go_simp
  go_at_call 10
  refine (fof_any k c _).mono ?_
  rintro e E1 ⟨rfl, bj⟩
  refine hK.out _ _ (kb0.trans (bj.mono kb0.size)) (fun hHeld => ?_)
  clear hK K
  try simp only [Act.put, List.setIfInBounds_toArray, List.set_cons_zero, List.set_cons_succ]
  have kb1 := kb0.trans (bj.mono kb0.size)
  clear bj
  refine takeR (i := 8) (v := ?_) rfl (by kernel_rfl) (by kernel_rfl) (by kernel_rfl) (some 59) rfl (Or.inl ⟨by rfl, ?_⟩) (fun _ _ _ h => h) (by assumption) ?_
  rotate_left
  · intro w hSw; (try dsimp only at hSw); go_simp; (try with_reducible rfl)
  simp only [Act.put, List.setIfInBounds_toArray, List.set_cons_zero, List.set_cons_succ]
  refine takeR (i := 9) (v := ?_) rfl (by kernel_rfl) (by kernel_rfl) (by kernel_rfl) (some 60) rfl (Or.inl ⟨by rfl, ?_⟩) (fun _ _ _ h => h) (by assumption) ?_
  rotate_left
  · intro w hSw; (try dsimp only at hSw); go_simp; (try with_reducible rfl)
  simp only [Act.put, List.setIfInBounds_toArray, List.set_cons_zero, List.set_cons_succ]
  refine takeR (i := 10) (v := ?_) rfl (by kernel_rfl) (by kernel_rfl) (by kernel_rfl) (some 61) rfl (Or.inl ⟨by rfl, ?_⟩) (fun _ _ _ h => h) (by assumption) ?_
  rotate_left
  · intro w hSw; (try dsimp only at hSw); go_simp; (try with_reducible rfl)
  simp only [Act.put, List.setIfInBounds_toArray, List.set_cons_zero, List.set_cons_succ]
  refine takeR (i := 11) (v := ?_) rfl (by kernel_rfl) (by kernel_rfl) (by kernel_rfl) (some 62) rfl (Or.inl ⟨by rfl, ?_⟩) (fun _ _ _ h => h) (by assumption) ?_
  rotate_left
  · intro w hSw; (try dsimp only at hSw); go_simp; (try with_reducible rfl)
  simp only [Act.put, List.setIfInBounds_toArray, List.set_cons_zero, List.set_cons_succ]
  refine takeR (i := 12) (v := ?_) rfl (by kernel_rfl) (by kernel_rfl) (by kernel_rfl) (some 63) rfl (Or.inl ⟨by rfl, ?_⟩) (fun _ _ _ h => h) (by assumption) ?_
  rotate_left
  · intro w hSw; (try dsimp only at hSw); go_simp; (try with_reducible rfl)
  simp only [Act.put, List.setIfInBounds_toArray, List.set_cons_zero, List.set_cons_succ]
  refine takeR (i := 13) (v := ?_) rfl (by kernel_rfl) (by kernel_rfl) (by kernel_rfl) (some 64) rfl (Or.inl ⟨by rfl, ?_⟩) (fun _ _ _ h => h) (by assumption) ?_
  rotate_left
  · intro w hSw; (try dsimp only at hSw); go_simp; (try with_reducible rfl)
  simp only [Act.put, List.setIfInBounds_toArray, List.set_cons_zero, List.set_cons_succ]
  refine takeR (i := 14) (v := ?_) rfl (by kernel_rfl) (by kernel_rfl) (by kernel_rfl) (some 65) rfl (Or.inl ⟨by rfl, ?_⟩) (fun _ _ _ h => h) (by assumption) ?_
  rotate_left
  · intro w hSw; (try dsimp only at hSw); go_simp; (try with_reducible rfl)
  simp only [Act.put, List.setIfInBounds_toArray, List.set_cons_zero, List.set_cons_succ]
  refine takeR (i := 15) (v := .int .i64 (m.length : Int)) rfl (by kernel_rfl) (by kernel_rfl) (by kernel_rfl) (some 66) rfl (Or.inl ⟨by rfl, ?_⟩) (fun _ _ _ h => h) (by assumption) ?_
  · intro w hSw; (try dsimp only at hSw); have hh := h64; go_simp; (try with_reducible rfl); (try omega)
  simp only [Act.put, List.setIfInBounds_toArray, List.set_cons_zero, List.set_cons_succ]
  refine takeR (i := 16) (v := ?_) rfl (by kernel_rfl) (by kernel_rfl) (by kernel_rfl) (some 67) rfl (Or.inl ⟨by rfl, ?_⟩) (fun _ _ _ h => h) (by assumption) ?_
  rotate_left
  · intro w hSw; (try dsimp only at hSw); go_simp; (try with_reducible rfl)
  simp only [Act.put, List.setIfInBounds_toArray, List.set_cons_zero, List.set_cons_succ]
  refine wpAnyH_ready (rs := [17]) (by kernel_rfl) (by simp) ?_
  refine AllReadyH.cons rfl (fun K hK => ?_) (AllReadyH.nil)
  go_simp
  go_at_call 7
  refine (bequal_any _ _ Y Y _ (H9.out.later kb1) ((HMT.out.later k5.out).later kb1)).mono ?_
  rintro e E2 ⟨rfl, e9⟩
  have bj : Below E1.heap.size E1 E2 := by rw [e9]; exact Below.refl _ _
  clear e9
  refine hK.out _ _ (kb1.trans (bj.mono kb1.size)) (fun hHeld => ?_)
  clear hK K
  try simp only [Act.put, List.setIfInBounds_toArray, List.set_cons_zero, List.set_cons_succ]
  have kb2 := kb1.trans (bj.mono kb1.size)
  clear bj
  refine takeR (i := 18) (v := ?_) rfl (by kernel_rfl) (by kernel_rfl) (by kernel_rfl) (some 69) rfl (Or.inl ⟨by rfl, ?_⟩) (fun _ _ _ h => h) (by assumption) ?_
  rotate_left
  · intro w hSw; (try dsimp only at hSw); go_simp; (try with_reducible rfl)
  simp only [Act.put, List.setIfInBounds_toArray, List.set_cons_zero, List.set_cons_succ]
  refine takeR (i := 19) (v := ?_) rfl (by kernel_rfl) (by kernel_rfl) (by kernel_rfl) (some 70) rfl (Or.inl ⟨by rfl, ?_⟩) (fun _ _ _ h => h) (by assumption) ?_
  rotate_left
  · intro w hSw; (try dsimp only at hSw); go_simp; (try with_reducible rfl)
  simp only [Act.put, List.setIfInBounds_toArray, List.set_cons_zero, List.set_cons_succ]
  refine wpAnyH_ready (rs := [20]) (by kernel_rfl) (by simp) ?_
  refine AllReadyH.cons rfl (fun K hK => ?_) (AllReadyH.nil)
  go_simp
  go_at_call 6
  refine (awake19_any _).mono ?_
  rintro e E3 ⟨rfl, bj⟩
  refine hK.out _ _ (kb2.trans (bj.mono kb2.size)) (fun hHeld => ?_)
  clear hK K
  try simp only [Act.put, List.setIfInBounds_toArray, List.set_cons_zero, List.set_cons_succ]
  have kb3 := kb2.trans (bj.mono kb2.size)
  clear bj
  refine takeR (i := 21) (v := ?_) rfl (by kernel_rfl) (by kernel_rfl) (by kernel_rfl) (some 72) rfl (Or.inl ⟨by rfl, ?_⟩) (fun _ _ _ h => h) (by assumption) ?_
  rotate_left
  · intro w hSw; (try dsimp only at hSw); go_simp; (try with_reducible rfl)
  simp only [Act.put, List.setIfInBounds_toArray, List.set_cons_zero, List.set_cons_succ]
  refine takeR (i := 22) (v := ?_) rfl (by kernel_rfl) (by kernel_rfl) (by kernel_rfl) (some 6) rfl (Or.inl ⟨by rfl, ?_⟩) (fun _ _ _ h => h) (by assumption) ?_
  rotate_left
  · intro w hSw; (try dsimp only at hSw); go_simp; (try with_reducible rfl)
  simp only [Act.put, List.setIfInBounds_toArray, List.set_cons_zero, List.set_cons_succ]
  refine wpAnyH_done (by kernel_rfl) ?_ _
  go_wp2_with fail
  go_ret
  exact ⟨rfl, k5.out.trans ((kb3).mono k5.out.size)⟩

end Go.Proofs.Ytfeioclnhnipmaa
