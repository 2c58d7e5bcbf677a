import Derived.Test.YtcfoieaejpdleaaNz
import Derived.Test.YtcfoieaejpdleaaNo
import Derived.Deep.RegionHeld3
import Derived.Deep.RegionWith
import Derived.Deep.MidRow
import Derived.Deep.Cut
import Derived.WalkMore
namespace Go.Proofs.Ytcfoieaejpdleaa
open Go Go.RowKit
set_option linter.unusedVariables false
set_option linter.unusedSimpArgs false
attribute [local go_sem] Oper.semAt_some

theorem eq_nilF (gf : Nat) (lb : Array Value) (w : World) : Sem.run Try.prog (binOp BinOp.eql 25 (.func (.func gf) #[] lb) .nilFunc) w = .ok (.bool false) w := by rfl
theorem u27 : Try.prog.underlying 27 = some (.slice (Try.prog.elem 27)) := by kernel_rfl
theorem sz27 (w : World) : (sizeOf (Try.prog.elem 27)).run Try.prog w = .ok 1 w := by
  have h : Try.prog.elem 27 = 22 := by kernel_rfl
  rw [h]
  rfl
theorem rb_take {W : World} {a : Option Addr} {n c : Nat} {M : List (List Int)} (h : RB W (.slice a n c) M) (m : Nat) (hm : m ≤ M.length) :
    (∀ wx, (Instr.sliceAt 27 (.slice a n c) none (some (.int .i64 (m : Int))) none).run Try.prog wx = .ok (.slice a m c) wx) ∧
      (∀ wx, (Instr.slice 27 (.slice a n c) none (some (.int .i64 (m : Int))) none).run Try.prog wx = .ok (.slice a m c) wx) ∧ RB W (.slice a m c) (M.take m) := by
  obtain ⟨a', c', e, h1, h2, h3⟩ := h
  cases e
  have r2 : ∀ wx, (Instr.slice 27 (.slice a M.length c) none (some (.int .i64 (m : Int))) none).run Try.prog wx = .ok (.slice a m c) wx := by
    intro wx
    rw [run_slice_h wx 27 a M.length c u27 .i64 (m : Int) (by omega) (by omega), sz27]
    have : a.map (fun x => x.add 0) = a := by cases a <;> simp [add_zero_addr]
    simp [sliced, this]
  refine ⟨fun wx => ?_, r2, ?_⟩
  · rw [run_sliceAt_slice wx 27 _ _ _ _ u27]; exact r2 wx
  · have hl : (M.take m).length = m := by simp; omega
    refine ⟨a, c, by rw [hl], by rw [hl]; omega, h2, fun i x hi => ?_⟩
    rw [List.getElem?_take] at hi
    split at hi
    · exact h3 i x hi
    · cases hi
set_option maxRecDepth 100000 in
set_option maxHeartbeats 8000000 in
theorem fs_dark (v : Value) (b : List Int) (most : Int) (w : World) (hB : Bytes w v b) (hl : b.length ≤ 140737488355328) (h4 : 4000 < b.length) :
    Calls Try.prog 3 #[v, .int .u8 most] w fun e w' => e = .returned (.bool true) ∧ Below w.heap.size w w' := by
  obtain ⟨ao, cap, rfl⟩ := hB.short
  have hm := hB.big
  have g4 : (4000 : Int) < (b.length : Int) := by omega
  have q := hide_ (fun W (hW : Below w.heap.size w W) => split_dark (.slice ao b.length cap) b W (hB.later hW) hl)
  clear hB hl h4
  go_enter Try.func3, Try.ntmps3
  go_wp2_with (first
    | (go_at_call 8; refine (q.out _ k3.out).mono ?_; rintro e w4 ⟨⟨gf4, lb4, rfl⟩, b4⟩; have hq4 := fun w => neq_nilF gf4 lb4 w; have k4 := hide_ (k3.out.trans (b4.mono k3.out.size)); clear b4)
    | (go_at_call 8; refine (q.out _ k1.out).mono ?_; rintro e w2 ⟨⟨gf, lb, rfl⟩, b2⟩; have hq := fun w => eq_nilF gf lb w; have k2 := hide_ (k1.out.trans (b2.mono k1.out.size)); clear b2)
    | (go_at_call 7; refine (awake16_any _).mono ?_; rintro e w3 ⟨rfl, b3⟩; have k3 := hide_ (k2.out.trans (b3.mono k2.out.size)); clear b3)
    | (go_at_call 7; refine (awake16_any _).mono ?_; rintro e w1 ⟨rfl, b1⟩; have k1 := hide_ b1; clear b1))
  go_ret
  exact ⟨rfl, k4.out⟩

set_option maxRecDepth 100000 in
set_option maxHeartbeats 8000000 in
theorem fs_light (v : Value) (b r : List Int) (M : List (List Int)) (most : Nat) (w : World) (hB : Bytes w v b) (hl : b.length ≤ 4000) (hC : Cuts b M r) (hm1 : most < 256) :
    Calls Try.prog 3 #[v, .int .u8 (most : Int)] w fun e w' => e = .returned (.bool true) ∧ Below w.heap.size w w' := by
  obtain ⟨ao, cap, rfl⟩ := hB.short
  have hm := hB.big
  have g4 : ¬ (4000 : Int) < (b.length : Int) := by omega
  have q := hide_ (fun W (hW : Below w.heap.size w W) => split_dark (.slice ao b.length cap) b W (hB.later hW) (by omega))
  have q2 := hide_ (fun W (hW : Below w.heap.size w W) => rlist_any (.slice ao b.length cap) b r M W (hB.later hW) (by omega) hC)
  have HB := hide_ hB
  have HC := hide_ hC
  have HL := hide_ hl
  have hw1 : IntKind.i64.wrap (most : Int) = (most : Int) := by rw [IntKind.wrap_i64]; omega
  obtain ⟨kn, hkn⟩ : ∃ kn, 1 + most = kn := ⟨_, rfl⟩
  have hw2 : IntKind.i64.wrap (1 + (most : Int)) = (kn : Int) := by rw [IntKind.wrap_i64]; omega
  have hk0 : 0 < kn := by omega
  have hk1 : kn ≤ 1000 := by omega
  clear hB hl hC hkn hm1
  go_enter Try.func3, Try.ntmps3
  go_upto_region 5 with (first
    | (go_at_call 8; refine (q.out _ k1.out).mono ?_; rintro e w2 ⟨⟨gf, lb, rfl⟩, b2⟩; have hq := fun w => eq_nilF gf lb w; have k2 := hide_ (k1.out.trans (b2.mono k1.out.size)); clear b2)
    | (go_at_call 9; refine (q2.out _ k2.out).mono ?_; rintro e w3 ⟨u2, rfl, R2, b3⟩; have k3 := hide_ (k2.out.trans (b3.mono k2.out.size)); obtain ⟨ua, uc, e2, hu1, hu2, hu3⟩ := id R2.rb; subst e2; have HW := hide_ R2.rb; clear b3 R2 hu1 hu2 hu3)
    | (go_at_call 7; refine (awake16_any _).mono ?_; rintro e w1 ⟨rfl, b1⟩; have k1 := hide_ b1; clear b1))
  have q1 : Hid (∀ W, Below w3.heap.size w3 W → Calls Try.prog 11 #[.slice ao b.length cap] W fun e w' => ∃ u, e = .returned u ∧ RowsAt w' u M ∧ (∀ g, u.ownBlock = some g → W.heap.size ≤ g) ∧ Below W.heap.size W w') := hide_ (fun W hW => list_any _ b r M W (HB.out.later (k3.out.trans (hW.mono k3.out.size))) (by have := HL.out; omega) HC.out)
  have q3 := hide_ (fun W (hW : Below w3.heap.size w3 W) => all_any (.slice ao b.length cap) b r M kn W (HB.out.later (k3.out.trans (hW.mono k3.out.size))) (by have := HL.out; omega) HC.out hk0 hk1)
  have q4 := hide_ (fun W (hW : Below w3.heap.size w3 W) => rest_any (.slice ao b.length cap) b r M W (HB.out.later (k3.out.trans (hW.mono k3.out.size))) (by have := HL.out; omega) HC.out)
  have q5 := hide_ (fun W (hW : Below w3.heap.size w3 W) => rrest_any (.slice ao b.length cap) b r M W (HB.out.later (k3.out.trans (hW.mono k3.out.size))) (by have := HL.out; omega) HC.out)
  obtain ⟨mm, hmm⟩ : ∃ mm, min kn M.length = mm := ⟨_, rfl⟩
  have hmt : M.take kn = M.take mm := by
    rw [← hmm]
    by_cases h : kn ≤ M.length
    · rw [Nat.min_eq_left h]
    · rw [Nat.min_eq_right (by omega), List.take_of_length_le (by omega), List.take_of_length_le (Nat.le_refl _)]
  obtain ⟨sl2, sl3, ht⟩ := rb_take HW.out mm (by omega)
  rw [hmt] at q3
  have hmi : (min (kn : Int) (M.length : Int)) = (mm : Int) := by omega
  have HT := hide_ ht
  have hML : M.length ≤ 9223372036854775807 := by obtain ⟨a0, c0, e0, h0, h1, -⟩ := HW.out; unfold maxLen at h1; omega
  generalize M.take mm = MT at *
  generalize hnM : M.length = nM at *
  have HNM := hide_ hnM
  clear hnM hmm hmt ht
  refine wp_region_held_drew (S := (fun w' => Below w3.heap.size w3 w')) (by kernel_rfl) ((Below.refl _ _).drew) (fun hHeld => ?_)
  have kb0 : Below w3.heap.size w3 w3.drew := (Below.refl _ _).drew
  generalize w3.drew = D0 at *
  refine takeR (i := 0) (v := ?_) rfl (by kernel_rfl) (by kernel_rfl) (by kernel_rfl) (some 30) rfl (Or.inl ⟨by rfl, ?_⟩) (fun _ _ _ h => h) (by assumption) ?_
  rotate_left
  · intro w hSw; (try dsimp only at hSw); go_simp; (try with_reducible rfl)
  simp only [Act.put, List.setIfInBounds_toArray, List.set_cons_zero, List.set_cons_succ]
  refine takeR (i := 2) (v := ?_) rfl (by kernel_rfl) (by kernel_rfl) (by kernel_rfl) (some 32) rfl (Or.inl ⟨by rfl, ?_⟩) (fun _ _ _ h => h) (by assumption) ?_
  rotate_left
  · intro w hSw; (try dsimp only at hSw); go_simp; (try with_reducible rfl)
  simp only [Act.put, List.setIfInBounds_toArray, List.set_cons_zero, List.set_cons_succ]
  refine wpAnyH_ready (rs := [1]) (by kernel_rfl) (by simp) ?_
  refine AllReadyH.cons rfl (fun K hK => ?_) (AllReadyH.nil)
  go_simp
  go_at_call 11
  refine (q1.out _ kb0).mono ?_
  rintro e D1 ⟨u1, rfl, R1, g1, bj⟩
  refine hK.out _ _ (kb0.trans (bj.mono kb0.size)) (fun hHeld => ?_)
  clear hK K
  try simp only [Act.put, List.setIfInBounds_toArray, List.set_cons_zero, List.set_cons_succ]
  have kb1 := kb0.trans (bj.mono kb0.size)
  have R1 := hide_ R1.rb
  clear g1
  clear bj
  refine wpAnyH_ready (rs := [3]) (by kernel_rfl) (by simp) ?_
  refine AllReadyH.cons rfl (fun K hK => ?_) (AllReadyH.nil)
  go_simp
  go_at_call 10
  refine (eqf_any u1 (.slice ua nM uc) M M D1 R1.out (HW.out.later kb1)).mono ?_
  rintro e D2 ⟨rfl, bj⟩
  rw [beq_self_eq_true]
  refine hK.out _ _ (kb1.trans (bj.mono kb1.size)) (fun hHeld => ?_)
  clear hK K
  try simp only [Act.put, List.setIfInBounds_toArray, List.set_cons_zero, List.set_cons_succ]
  have kb2 := kb1.trans (bj.mono kb1.size)
  clear bj
  refine takeR (i := 4) (v := ?_) rfl (by kernel_rfl) (by kernel_rfl) (by kernel_rfl) (some 34) rfl (Or.inl ⟨by rfl, ?_⟩) (fun _ _ _ h => h) (by assumption) ?_
  rotate_left
  · intro w hSw; (try dsimp only at hSw); go_simp; (try with_reducible rfl)
  simp only [Act.put, List.setIfInBounds_toArray, List.set_cons_zero, List.set_cons_succ]
  refine takeR (i := 5) (v := ?_) rfl (by kernel_rfl) (by kernel_rfl) (by kernel_rfl) (some 35) rfl (Or.inl ⟨by rfl, ?_⟩) (fun _ _ _ h => h) (by assumption) ?_
  rotate_left
  · intro w hSw; (try dsimp only at hSw); go_simp; (try with_reducible rfl)
  simp only [Act.put, List.setIfInBounds_toArray, List.set_cons_zero, List.set_cons_succ]
  refine takeR (i := 6) (v := ?_) rfl (by kernel_rfl) (by kernel_rfl) (by kernel_rfl) (some 36) rfl (Or.inl ⟨by rfl, ?_⟩) (fun _ _ _ h => h) (by assumption) ?_
  rotate_left
  · intro w hSw; (try dsimp only at hSw); go_simp; (try with_reducible rfl)
  simp only [Act.put, List.setIfInBounds_toArray, List.set_cons_zero, List.set_cons_succ]
  refine takeR (i := 8) (v := ?_) rfl (by kernel_rfl) (by kernel_rfl) (by kernel_rfl) (some 38) rfl (Or.inl ⟨by rfl, ?_⟩) (fun _ _ _ h => h) (by assumption) ?_
  rotate_left
  · intro w hSw; (try dsimp only at hSw); go_simp; (try with_reducible rfl)
  simp only [Act.put, List.setIfInBounds_toArray, List.set_cons_zero, List.set_cons_succ]
  refine takeR (i := 9) (v := ?_) rfl (by kernel_rfl) (by kernel_rfl) (by kernel_rfl) (some 39) rfl (Or.inl ⟨by rfl, ?_⟩) (fun _ _ _ h => h) (by assumption) ?_
  rotate_left
  · intro w hSw; (try dsimp only at hSw); go_simp; (try with_reducible rfl)
  simp only [Act.put, List.setIfInBounds_toArray, List.set_cons_zero, List.set_cons_succ]
  refine takeR (i := 10) (v := ?_) rfl (by kernel_rfl) (by kernel_rfl) (by kernel_rfl) (some 40) rfl (Or.inl ⟨by rfl, ?_⟩) (fun _ _ _ h => h) (by assumption) ?_
  rotate_left
  · intro w hSw; (try dsimp only at hSw); go_simp; (try with_reducible rfl)
  simp only [Act.put, List.setIfInBounds_toArray, List.set_cons_zero, List.set_cons_succ]
  refine takeR (i := 11) (v := ?_) rfl (by kernel_rfl) (by kernel_rfl) (by kernel_rfl) (some 41) rfl (Or.inl ⟨by rfl, ?_⟩) (fun _ _ _ h => h) (by assumption) ?_
  rotate_left
  · intro w hSw; (try dsimp only at hSw); go_simp; (try with_reducible rfl)
  simp only [Act.put, List.setIfInBounds_toArray, List.set_cons_zero, List.set_cons_succ]
  refine takeR (i := 12) (v := ?_) rfl (by kernel_rfl) (by kernel_rfl) (by kernel_rfl) (some 42) rfl (Or.inl ⟨by rfl, ?_⟩) (fun _ _ _ h => h) (by assumption) ?_
  rotate_left
  · intro w hSw; (try dsimp only at hSw); go_simp; (try with_reducible rfl)
  simp only [Act.put, List.setIfInBounds_toArray, List.set_cons_zero, List.set_cons_succ]
  refine takeR (i := 13) (v := ?_) rfl (by kernel_rfl) (by kernel_rfl) (by kernel_rfl) (some 43) rfl (Or.inl ⟨by rfl, ?_⟩) (fun _ _ _ h => h) (by assumption) ?_
  rotate_left
  · intro w hSw; (try dsimp only at hSw); go_simp; (try with_reducible rfl)
  simp only [Act.put, List.setIfInBounds_toArray, List.set_cons_zero, List.set_cons_succ]
  refine wpAnyH_ready (rs := [7]) (by kernel_rfl) (by simp) ?_
  refine AllReadyH.cons rfl (fun K hK => ?_) (AllReadyH.nil)
  go_simp
  go_at_call 13
  refine (q3.out _ kb2).mono ?_
  rintro e D3 ⟨u3, rfl, R3, bj⟩
  refine hK.out _ _ (kb2.trans (bj.mono kb2.size)) (fun hHeld => ?_)
  clear hK K
  try simp only [Act.put, List.setIfInBounds_toArray, List.set_cons_zero, List.set_cons_succ]
  have kb3 := kb2.trans (bj.mono kb2.size)
  have R3 := hide_ R3.rb
  clear bj
  refine wpAnyH_ready (rs := [14]) (by kernel_rfl) (by simp) ?_
  refine AllReadyH.cons rfl (fun K hK => ?_) (AllReadyH.nil)
  go_simp
  go_at_call 10
  refine (eqf_any u3 (.slice ua mm uc) MT MT D3 R3.out (HT.out.later kb3)).mono ?_
  rintro e D4 ⟨rfl, bj⟩
  rw [beq_self_eq_true]
  refine hK.out _ _ (kb3.trans (bj.mono kb3.size)) (fun hHeld => ?_)
  clear hK K
  try simp only [Act.put, List.setIfInBounds_toArray, List.set_cons_zero, List.set_cons_succ]
  have kb4 := kb3.trans (bj.mono kb3.size)
  clear bj
  refine takeR (i := 15) (v := ?_) rfl (by kernel_rfl) (by kernel_rfl) (by kernel_rfl) (some 45) rfl (Or.inl ⟨by rfl, ?_⟩) (fun _ _ _ h => h) (by assumption) ?_
  rotate_left
  · intro w hSw; (try dsimp only at hSw); go_simp; (try with_reducible rfl)
  simp only [Act.put, List.setIfInBounds_toArray, List.set_cons_zero, List.set_cons_succ]
  refine takeR (i := 16) (v := ?_) rfl (by kernel_rfl) (by kernel_rfl) (by kernel_rfl) (some 46) rfl (Or.inl ⟨by rfl, ?_⟩) (fun _ _ _ h => h) (by assumption) ?_
  rotate_left
  · intro w hSw; (try dsimp only at hSw); go_simp; (try with_reducible rfl)
  simp only [Act.put, List.setIfInBounds_toArray, List.set_cons_zero, List.set_cons_succ]
  refine takeR (i := 17) (v := ?_) rfl (by kernel_rfl) (by kernel_rfl) (by kernel_rfl) (some 47) rfl (Or.inl ⟨by rfl, ?_⟩) (fun _ _ _ h => h) (by assumption) ?_
  rotate_left
  · intro w hSw; (try dsimp only at hSw); go_simp; (try with_reducible rfl)
  simp only [Act.put, List.setIfInBounds_toArray, List.set_cons_zero, List.set_cons_succ]
  refine takeR (i := 19) (v := ?_) rfl (by kernel_rfl) (by kernel_rfl) (by kernel_rfl) (some 49) rfl (Or.inl ⟨by rfl, ?_⟩) (fun _ _ _ h => h) (by assumption) ?_
  rotate_left
  · intro w hSw; (try dsimp only at hSw); go_simp; (try with_reducible rfl)
  simp only [Act.put, List.setIfInBounds_toArray, List.set_cons_zero, List.set_cons_succ]
  refine wpAnyH_ready (rs := [18]) (by kernel_rfl) (by simp) ?_
  refine AllReadyH.cons rfl (fun K hK => ?_) (AllReadyH.nil)
  go_simp
  go_at_call 14
  refine (q4.out _ kb4).mono ?_
  rintro e D5 ⟨a4, c4, rfl, h4, bj⟩
  refine hK.out _ _ (kb4.trans (bj.mono kb4.size)) (fun hHeld => ?_)
  clear hK K
  try simp only [Act.put, List.setIfInBounds_toArray, List.set_cons_zero, List.set_cons_succ]
  have kb5 := kb4.trans (bj.mono kb4.size)
  have h4 := hide_ h4
  clear bj
  refine wpAnyH_ready (rs := [20]) (by kernel_rfl) (by simp) ?_
  refine AllReadyH.cons rfl (fun K hK => ?_) (AllReadyH.nil)
  go_simp
  go_at_call 15
  refine (q5.out _ kb5).mono ?_
  rintro e D6 ⟨a5, c5, rfl, h5, bj⟩
  refine hK.out _ _ (kb5.trans (bj.mono kb5.size)) (fun hHeld => ?_)
  clear hK K
  try simp only [Act.put, List.setIfInBounds_toArray, List.set_cons_zero, List.set_cons_succ]
  have kb6 := kb5.trans (bj.mono kb5.size)
  have h4 := hide_ (h4.out.later bj)
  have h5 := hide_ h5
  clear bj
  refine wpAnyH_ready (rs := [21]) (by kernel_rfl) (by simp) ?_
  refine AllReadyH.cons rfl (fun K hK => ?_) (AllReadyH.nil)
  go_simp
  go_at_call 12
  refine (bequal_any (.slice a4 r.length c4) (.slice a5 r.length c5) r r D6 h4.out h5.out).mono ?_
  rintro e D7 ⟨rfl, ej⟩
  have bj : Below D6.heap.size D6 D7 := ej ▸ Below.refl _ _
  rw [beq_self_eq_true]
  refine hK.out _ _ (kb6.trans (bj.mono kb6.size)) (fun hHeld => ?_)
  clear hK K
  try simp only [Act.put, List.setIfInBounds_toArray, List.set_cons_zero, List.set_cons_succ]
  have kb7 := kb6.trans (bj.mono kb6.size)
  clear bj
  refine takeR (i := 22) (v := ?_) rfl (by kernel_rfl) (by kernel_rfl) (by kernel_rfl) (some 52) rfl (Or.inl ⟨by rfl, ?_⟩) (fun _ _ _ h => h) (by assumption) ?_
  rotate_left
  · intro w hSw; (try dsimp only at hSw); go_simp; (try with_reducible rfl)
  simp only [Act.put, List.setIfInBounds_toArray, List.set_cons_zero, List.set_cons_succ]
  refine takeR (i := 23) (v := ?_) rfl (by kernel_rfl) (by kernel_rfl) (by kernel_rfl) (some 4) rfl (Or.inl ⟨by rfl, ?_⟩) (fun _ _ _ h => h) (by assumption) ?_
  rotate_left
  · intro w hSw; (try dsimp only at hSw); go_simp; (try with_reducible rfl)
  simp only [Act.put, List.setIfInBounds_toArray, List.set_cons_zero, List.set_cons_succ]
  refine wpAnyH_done (by kernel_rfl) ?_ _
  go_wp2_with fail
  have k9 := hide_ (k3.out.trans (kb7.mono k3.out.size))
  go_wp2_with (go_at_call 7; refine (awake16_any _).mono ?_; rintro e w9 ⟨rfl, b9⟩)
  go_ret
  exact ⟨rfl, k9.out⟩

theorem frameSplits_walk (v : Value) (b : List Int) (most : Nat) (w : World) (hB : Bytes w v b) (hl : b.length ≤ 140737488355328) (hm1 : most < 256) :
    Calls Try.prog 3 #[v, .int .u8 (most : Int)] w fun e w' => e = .returned (.bool true) ∧ Below w.heap.size w w' := by
  by_cases h4 : 4000 < b.length
  · exact fs_dark v b most w hB hl h4
  · obtain ⟨M, r, hC⟩ := cuts_ex b.length b (Nat.le_refl _)
    exact fs_light v b r M most w hB (by omega) hC hm1
end Go.Proofs.Ytcfoieaejpdleaa
