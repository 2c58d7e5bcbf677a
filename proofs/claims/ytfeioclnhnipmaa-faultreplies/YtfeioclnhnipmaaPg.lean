import Derived.Test.YtfeioclnhnipmaaPf
import Derived.Deep.RegionHeld3
import Derived.Deep.RegionWith
import Derived.Deep.MidRow
import Derived.Deep.Cut
namespace Go.Proofs.Ytfeioclnhnipmaa
open Go Go.RowKit
set_option linter.unusedVariables false
set_option linter.unusedSimpArgs false

theorem freply_both (o : Bool) (t c : Int) (ao : Option Addr) (cap : Nat) (m : List Int) (w : World) (hB : Bytes w (.slice ao m.length cap) m) : ∃ B : List Int, (∀ W, Below w.heap.size w W → Calls Try.prog 8 #[.agg #[.bool o, .int .i64 t, .int .i64 c], .slice ao m.length cap] W fun e w' => ∃ a cc, e = .returned (.slice a B.length cc) ∧ Bytes w' (.slice a B.length cc) B ∧ Below W.heap.size W w') ∧ (∀ W, Below w.heap.size w W → Calls Try.prog 9 #[.agg #[.bool o, .int .i64 t, .int .i64 c], .slice ao m.length cap] W fun e w' => ∃ a cc, e = .returned (.slice a B.length cc) ∧ Bytes w' (.slice a B.length cc) B ∧ Below W.heap.size W w') := by
  by_cases hr : replyR o t c = true
  · have hp := hr
    unfold replyR at hp
    simp only [Bool.and_eq_true] at hp
    have hi := replyF_isB hp.1.2 hp.2 hB.isB_
    refine ⟨replyF t c m, fun W hW => (freply_yes o t c _ m W (hB.later hW) hr).mono ?_, fun W hW => (rfreply_yes o t c _ m W (hB.later hW) hr).mono ?_⟩
    · rintro e w' ⟨a, cc, rfl, o, b⟩
      exact ⟨a, cc, rfl, Bytes.ofOwn o hi, b⟩
    · rintro e w' ⟨a, cc, rfl, o, b⟩
      exact ⟨a, cc, rfl, Bytes.ofOwn o hi, b⟩
  · have hr' : replyR o t c = false := by simpa using hr
    refine ⟨[], fun W hW => (freply_no o t c _ m W (hB.later hW) hr').mono ?_, fun W hW => (rfreply_no o t c _ m W (hB.later hW) hr').mono ?_⟩
    · rintro e w' ⟨rfl, b⟩
      exact ⟨none, 0, rfl, Bytes.nil _, b⟩
    · rintro e w' ⟨rfl, b⟩
      exact ⟨none, 0, rfl, Bytes.nil _, b⟩

set_option maxRecDepth 100000 in
set_option maxHeartbeats 8000000 in
theorem faultReplies_walk (o : Bool) (t c : Int) (v : Value) (m : List Int) (w : World) (hB : Bytes w v m) :
    Calls Try.prog 3 #[.agg #[.bool o, .int .i64 t, .int .i64 c], v] w fun e w' => e = .returned (.bool true) ∧ Below w.heap.size w w' := by
  have hm := hB.big
  obtain ⟨ao, cap, rfl⟩ := hB.short
  have B0 := hide_ (below1 w (.cells #[.bool o, .int .i64 t, .int .i64 c] 23))
  have A0 := hide_ (AB.at0 w 23 [.bool o, .int .i64 t, .int .i64 c])
  by_cases h7 : m.length ≤ 4000
  · have h7' : ¬ (4000 : Int) < (m.length : Int) := by omega
    obtain ⟨B, q1, q2⟩ := freply_both o t c ao cap m w hB
    have q1 := hide_ q1
    have q2 := hide_ q2
    obtain ⟨sn, hn⟩ := nameV_str o t
    have q3 : Hid (∀ W, Calls Try.prog 12 #[.agg #[.bool o, .int .i64 t, .int .i64 c]] W fun e w' => e = .returned (.string sn) ∧ Below W.heap.size W w') := hide_ (fun W => by rw [← hn]; exact fname_any o t c W)
    have q4 : Hid (∀ W, Calls Try.prog 13 #[.agg #[.bool o, .int .i64 t, .int .i64 c]] W fun e w' => e = .returned (.string sn) ∧ Below W.heap.size W w') := hide_ (fun W => by rw [← hn]; exact rfname_any o t c W)
    clear hB h7 hn
    go_enter Try.func3, Try.ntmps3
    go_upto_region 3 with fail
    obtain ⟨x0, x1, x2, -⟩ := A0.out.three
    generalize w.alloc (.cells #[.bool o, .int .i64 t, .int .i64 c] 23) = w1 at *
    refine wp_region_held_drew (S := (fun w' => Below w1.heap.size w1 w')) (by kernel_rfl) ((Below.refl _ _).drew) (fun hHeld => ?_)
    have kb0 : Below w1.heap.size w1 w1.drew := (Below.refl _ _).drew
    generalize w1.drew = D0 at *
    refine takeR (i := 0) (v := ?_) rfl (by kernel_rfl) (by kernel_rfl) (by kernel_rfl) (some 9) rfl (Or.inl ⟨by rfl, ?_⟩) (fun _ _ _ h => h) (by assumption) ?_
    rotate_left
    · intro w hSw; (try dsimp only at hSw); have hc0 := cell_later hSw x0; have hc1 := cell_later hSw x1; have hc2 := cell_later hSw x2; go_simp; (try with_reducible rfl)
    simp only [Act.put, List.setIfInBounds_toArray, List.set_cons_zero, List.set_cons_succ]
    refine takeR (i := 1) (v := ?_) rfl (by kernel_rfl) (by kernel_rfl) (by kernel_rfl) (some 10) rfl (Or.inl ⟨by rfl, ?_⟩) (fun _ _ _ h => h) (by assumption) ?_
    rotate_left
    · intro w hSw; (try dsimp only at hSw); go_simp; (try with_reducible rfl)
    simp only [Act.put, List.setIfInBounds_toArray, List.set_cons_zero, List.set_cons_succ]
    refine takeR (i := 3) (v := ?_) rfl (by kernel_rfl) (by kernel_rfl) (by kernel_rfl) (some 12) rfl (Or.inl ⟨by rfl, ?_⟩) (fun _ _ _ h => h) (by assumption) ?_
    rotate_left
    · intro w hSw; (try dsimp only at hSw); have hc0 := cell_later hSw x0; have hc1 := cell_later hSw x1; have hc2 := cell_later hSw x2; go_simp; (try with_reducible rfl)
    simp only [Act.put, List.setIfInBounds_toArray, List.set_cons_zero, List.set_cons_succ]
    refine takeR (i := 4) (v := ?_) rfl (by kernel_rfl) (by kernel_rfl) (by kernel_rfl) (some 13) rfl (Or.inl ⟨by rfl, ?_⟩) (fun _ _ _ h => h) (by assumption) ?_
    rotate_left
    · intro w hSw; (try dsimp only at hSw); go_simp; (try with_reducible rfl)
    simp only [Act.put, List.setIfInBounds_toArray, List.set_cons_zero, List.set_cons_succ]
    refine wpAnyH_ready (rs := [2]) (by kernel_rfl) (by simp) ?_
    refine AllReadyH.cons rfl (fun K hK => ?_) (AllReadyH.nil)
    go_simp
    go_at_call 8
    refine (q1.out _ (B0.out.trans ((kb0).mono B0.out.size))).mono ?_
    rintro e D1 ⟨a1, c1, rfl, h1, bj⟩
    refine hK.out _ _ (kb0.trans (bj.mono kb0.size)) (fun hHeld => ?_)
    clear hK K
    try simp only [Act.put, List.setIfInBounds_toArray, List.set_cons_zero, List.set_cons_succ]
    have kb1 := kb0.trans (bj.mono kb0.size)
    have h1 := hide_ h1
    clear bj
    refine wpAnyH_ready (rs := [5]) (by kernel_rfl) (by simp) ?_
    refine AllReadyH.cons rfl (fun K hK => ?_) (AllReadyH.nil)
    go_simp
    go_at_call 9
    refine (q2.out _ (B0.out.trans ((kb1).mono B0.out.size))).mono ?_
    rintro e D2 ⟨a2, c2, rfl, h2, bj⟩
    refine hK.out _ _ (kb1.trans (bj.mono kb1.size)) (fun hHeld => ?_)
    clear hK K
    try simp only [Act.put, List.setIfInBounds_toArray, List.set_cons_zero, List.set_cons_succ]
    have kb2 := kb1.trans (bj.mono kb1.size)
    have h2 := hide_ h2
    have h1 := hide_ (h1.out.later bj)
    clear bj
    refine wpAnyH_ready (rs := [6]) (by kernel_rfl) (by simp) ?_
    refine AllReadyH.cons rfl (fun K hK => ?_) (AllReadyH.nil)
    go_simp
    go_at_call 7
    refine (bequal_any _ _ B B _ h1.out h2.out).mono ?_
    rintro e D3 ⟨rfl, e9⟩
    have bj : Below D2.heap.size D2 D3 := by rw [e9]; exact Below.refl _ _
    clear e9
    refine hK.out _ _ (kb2.trans (bj.mono kb2.size)) (fun hHeld => ?_)
    clear hK K
    try simp only [Act.put, List.setIfInBounds_toArray, List.set_cons_zero, List.set_cons_succ]
    have kb3 := kb2.trans (bj.mono kb2.size)
    clear bj
    refine takeR (i := 7) (v := ?_) rfl (by kernel_rfl) (by kernel_rfl) (by kernel_rfl) (some 16) rfl (Or.inl ⟨by rfl, ?_⟩) (fun _ _ _ h => h) (by assumption) ?_
    rotate_left
    · intro w hSw; (try dsimp only at hSw); go_simp; (try with_reducible rfl)
    simp only [Act.put, List.setIfInBounds_toArray, List.set_cons_zero, List.set_cons_succ]
    refine takeR (i := 8) (v := ?_) rfl (by kernel_rfl) (by kernel_rfl) (by kernel_rfl) (some 17) rfl (Or.inl ⟨by rfl, ?_⟩) (fun _ _ _ h => h) (by assumption) ?_
    rotate_left
    · intro w hSw; (try dsimp only at hSw); go_simp; (try with_reducible rfl)
    simp only [Act.put, List.setIfInBounds_toArray, List.set_cons_zero, List.set_cons_succ]
    refine takeR (i := 9) (v := ?_) rfl (by kernel_rfl) (by kernel_rfl) (by kernel_rfl) (some 18) rfl (Or.inl ⟨by rfl, ?_⟩) (fun _ _ _ h => h) (by assumption) ?_
    rotate_left
    · intro w hSw; (try dsimp only at hSw); have hc0 := cell_later hSw x0; have hc1 := cell_later hSw x1; have hc2 := cell_later hSw x2; go_simp; (try with_reducible rfl)
    simp only [Act.put, List.setIfInBounds_toArray, List.set_cons_zero, List.set_cons_succ]
    refine takeR (i := 10) (v := ?_) rfl (by kernel_rfl) (by kernel_rfl) (by kernel_rfl) (some 19) rfl (Or.inl ⟨by rfl, ?_⟩) (fun _ _ _ h => h) (by assumption) ?_
    rotate_left
    · intro w hSw; (try dsimp only at hSw); go_simp; (try with_reducible rfl)
    simp only [Act.put, List.setIfInBounds_toArray, List.set_cons_zero, List.set_cons_succ]
    refine takeR (i := 11) (v := ?_) rfl (by kernel_rfl) (by kernel_rfl) (by kernel_rfl) (some 20) rfl (Or.inl ⟨by rfl, ?_⟩) (fun _ _ _ h => h) (by assumption) ?_
    rotate_left
    · intro w hSw; (try dsimp only at hSw); have hc0 := cell_later hSw x0; have hc1 := cell_later hSw x1; have hc2 := cell_later hSw x2; go_simp; (try with_reducible rfl)
    simp only [Act.put, List.setIfInBounds_toArray, List.set_cons_zero, List.set_cons_succ]
    refine takeR (i := 13) (v := ?_) rfl (by kernel_rfl) (by kernel_rfl) (by kernel_rfl) (some 22) rfl (Or.inl ⟨by rfl, ?_⟩) (fun _ _ _ h => h) (by assumption) ?_
    rotate_left
    · intro w hSw; (try dsimp only at hSw); go_simp; (try with_reducible rfl)
    simp only [Act.put, List.setIfInBounds_toArray, List.set_cons_zero, List.set_cons_succ]
    refine takeR (i := 14) (v := ?_) rfl (by kernel_rfl) (by kernel_rfl) (by kernel_rfl) (some 23) rfl (Or.inl ⟨by rfl, ?_⟩) (fun _ _ _ h => h) (by assumption) ?_
    rotate_left
    · intro w hSw; (try dsimp only at hSw); have hc0 := cell_later hSw x0; have hc1 := cell_later hSw x1; have hc2 := cell_later hSw x2; go_simp; (try with_reducible rfl)
    simp only [Act.put, List.setIfInBounds_toArray, List.set_cons_zero, List.set_cons_succ]
    refine takeR (i := 15) (v := ?_) rfl (by kernel_rfl) (by kernel_rfl) (by kernel_rfl) (some 24) rfl (Or.inl ⟨by rfl, ?_⟩) (fun _ _ _ h => h) (by assumption) ?_
    rotate_left
    · intro w hSw; (try dsimp only at hSw); go_simp; (try with_reducible rfl)
    simp only [Act.put, List.setIfInBounds_toArray, List.set_cons_zero, List.set_cons_succ]
    refine takeR (i := 16) (v := ?_) rfl (by kernel_rfl) (by kernel_rfl) (by kernel_rfl) (some 25) rfl (Or.inl ⟨by rfl, ?_⟩) (fun _ _ _ h => h) (by assumption) ?_
    rotate_left
    · intro w hSw; (try dsimp only at hSw); have hc0 := cell_later hSw x0; have hc1 := cell_later hSw x1; have hc2 := cell_later hSw x2; go_simp; (try with_reducible rfl)
    simp only [Act.put, List.setIfInBounds_toArray, List.set_cons_zero, List.set_cons_succ]
    refine wpAnyH_ready (rs := [12]) (by kernel_rfl) (by simp) ?_
    refine AllReadyH.cons rfl (fun K hK => ?_) (AllReadyH.nil)
    go_simp
    go_at_call 10
    refine (fof_any t c _).mono ?_
    rintro e D4 ⟨rfl, bj⟩
    refine hK.out _ _ (kb3.trans (bj.mono kb3.size)) (fun hHeld => ?_)
    clear hK K
    try simp only [Act.put, List.setIfInBounds_toArray, List.set_cons_zero, List.set_cons_succ]
    have kb4 := kb3.trans (bj.mono kb3.size)
    clear bj
    refine wpAnyH_ready (rs := [17]) (by kernel_rfl) (by simp) ?_
    refine AllReadyH.cons rfl (fun K hK => ?_) (AllReadyH.nil)
    go_simp
    go_at_call 11
    refine (rfof_any t c _).mono ?_
    rintro e D5 ⟨rfl, bj⟩
    refine hK.out _ _ (kb4.trans (bj.mono kb4.size)) (fun hHeld => ?_)
    clear hK K
    try simp only [Act.put, List.setIfInBounds_toArray, List.set_cons_zero, List.set_cons_succ]
    have kb5 := kb4.trans (bj.mono kb4.size)
    clear bj
    refine takeR (i := 18) (v := ?_) rfl (by kernel_rfl) (by kernel_rfl) (by kernel_rfl) (some 27) rfl (Or.inl ⟨by rfl, ?_⟩) (fun _ _ _ h => h) (by assumption) ?_
    rotate_left
    · intro w hSw; (try dsimp only at hSw); go_simp; (try with_reducible rfl)
    simp only [Act.put, List.setIfInBounds_toArray, List.set_cons_zero, List.set_cons_succ]
    refine takeR (i := 19) (v := ?_) rfl (by kernel_rfl) (by kernel_rfl) (by kernel_rfl) (some 28) rfl (Or.inl ⟨by rfl, ?_⟩) (fun _ _ _ h => h) (by assumption) ?_
    rotate_left
    · intro w hSw; (try dsimp only at hSw); go_simp; (try with_reducible rfl)
    simp only [Act.put, List.setIfInBounds_toArray, List.set_cons_zero, List.set_cons_succ]
    refine takeR (i := 20) (v := ?_) rfl (by kernel_rfl) (by kernel_rfl) (by kernel_rfl) (some 29) rfl (Or.inl ⟨by rfl, ?_⟩) (fun _ _ _ h => h) (by assumption) ?_
    rotate_left
    · intro w hSw; (try dsimp only at hSw); go_simp; (try with_reducible rfl)
    simp only [Act.put, List.setIfInBounds_toArray, List.set_cons_zero, List.set_cons_succ]
    refine takeR (i := 21) (v := ?_) rfl (by kernel_rfl) (by kernel_rfl) (by kernel_rfl) (some 30) rfl (Or.inl ⟨by rfl, ?_⟩) (fun _ _ _ h => h) (by assumption) ?_
    rotate_left
    · intro w hSw; (try dsimp only at hSw); have hc0 := cell_later hSw x0; have hc1 := cell_later hSw x1; have hc2 := cell_later hSw x2; go_simp; (try with_reducible rfl)
    simp only [Act.put, List.setIfInBounds_toArray, List.set_cons_zero, List.set_cons_succ]
    refine takeR (i := 23) (v := ?_) rfl (by kernel_rfl) (by kernel_rfl) (by kernel_rfl) (some 32) rfl (Or.inl ⟨by rfl, ?_⟩) (fun _ _ _ h => h) (by assumption) ?_
    rotate_left
    · intro w hSw; (try dsimp only at hSw); have hc0 := cell_later hSw x0; have hc1 := cell_later hSw x1; have hc2 := cell_later hSw x2; go_simp; (try with_reducible rfl)
    simp only [Act.put, List.setIfInBounds_toArray, List.set_cons_zero, List.set_cons_succ]
    refine wpAnyH_ready (rs := [22]) (by kernel_rfl) (by simp) ?_
    refine AllReadyH.cons rfl (fun K hK => ?_) (AllReadyH.nil)
    go_simp
    go_at_call 12
    refine (q3.out _).mono ?_
    rintro e D6 ⟨rfl, bj⟩
    refine hK.out _ _ (kb5.trans (bj.mono kb5.size)) (fun hHeld => ?_)
    clear hK K
    try simp only [Act.put, List.setIfInBounds_toArray, List.set_cons_zero, List.set_cons_succ]
    have kb6 := kb5.trans (bj.mono kb5.size)
    clear bj
    refine wpAnyH_ready (rs := [24]) (by kernel_rfl) (by simp) ?_
    refine AllReadyH.cons rfl (fun K hK => ?_) (AllReadyH.nil)
    go_simp
    go_at_call 13
    refine (q4.out _).mono ?_
    rintro e D7 ⟨rfl, bj⟩
    refine hK.out _ _ (kb6.trans (bj.mono kb6.size)) (fun hHeld => ?_)
    clear hK K
    try simp only [Act.put, List.setIfInBounds_toArray, List.set_cons_zero, List.set_cons_succ]
    have kb7 := kb6.trans (bj.mono kb6.size)
    clear bj
    refine takeR (i := 25) (v := ?_) rfl (by kernel_rfl) (by kernel_rfl) (by kernel_rfl) (some 34) rfl (Or.inl ⟨by rfl, ?_⟩) (fun _ _ _ h => h) (by assumption) ?_
    rotate_left
    · intro w hSw; (try dsimp only at hSw); go_simp; (try with_reducible rfl)
    simp only [Act.put, List.setIfInBounds_toArray, List.set_cons_zero, List.set_cons_succ]
    refine takeR (i := 26) (v := ?_) rfl (by kernel_rfl) (by kernel_rfl) (by kernel_rfl) (some 35) rfl (Or.inl ⟨by rfl, ?_⟩) (fun _ _ _ h => h) (by assumption) ?_
    rotate_left
    · intro w hSw; (try dsimp only at hSw); go_simp; (try with_reducible rfl)
    simp only [Act.put, List.setIfInBounds_toArray, List.set_cons_zero, List.set_cons_succ]
    refine takeR (i := 27) (v := ?_) rfl (by kernel_rfl) (by kernel_rfl) (by kernel_rfl) (some 36) rfl (Or.inl ⟨by rfl, ?_⟩) (fun _ _ _ h => h) (by assumption) ?_
    rotate_left
    · intro w hSw; (try dsimp only at hSw); go_simp; (try with_reducible rfl)
    simp only [Act.put, List.setIfInBounds_toArray, List.set_cons_zero, List.set_cons_succ]
    refine wpAnyH_ready (rs := [28]) (by kernel_rfl) (by simp) ?_
    refine AllReadyH.cons rfl (fun K hK => ?_) (AllReadyH.nil)
    go_simp
    go_at_call 6
    refine (awake19_any _).mono ?_
    rintro e D8 ⟨rfl, bj⟩
    refine hK.out _ _ (kb7.trans (bj.mono kb7.size)) (fun hHeld => ?_)
    clear hK K
    try simp only [Act.put, List.setIfInBounds_toArray, List.set_cons_zero, List.set_cons_succ]
    have kb8 := kb7.trans (bj.mono kb7.size)
    clear bj
    refine takeR (i := 29) (v := ?_) rfl (by kernel_rfl) (by kernel_rfl) (by kernel_rfl) (some 38) rfl (Or.inl ⟨by rfl, ?_⟩) (fun _ _ _ h => h) (by assumption) ?_
    rotate_left
    · intro w hSw; (try dsimp only at hSw); go_simp; (try with_reducible rfl)
    simp only [Act.put, List.setIfInBounds_toArray, List.set_cons_zero, List.set_cons_succ]
    refine takeR (i := 30) (v := ?_) rfl (by kernel_rfl) (by kernel_rfl) (by kernel_rfl) (some 4) rfl (Or.inl ⟨by rfl, ?_⟩) (fun _ _ _ h => h) (by assumption) ?_
    rotate_left
    · intro w hSw; (try dsimp only at hSw); go_simp; (try with_reducible rfl)
    simp only [Act.put, List.setIfInBounds_toArray, List.set_cons_zero, List.set_cons_succ]
    refine wpAnyH_done (by kernel_rfl) ?_ _
    go_wp2_with fail
    go_ret
    exact ⟨rfl, B0.out.trans ((kb8).mono B0.out.size)⟩

  · have h7' : (4000 : Int) < (m.length : Int) := by omega
    clear hB h7
    go_enter Try.func3, Try.ntmps3
    go_wp2_with (go_at_call 6; refine (awake19_any _).mono ?_; rintro e w9 ⟨rfl, b9⟩)
    go_ret
    exact ⟨rfl, B0.out.trans (b9.mono B0.out.size)⟩

end Go.Proofs.Ytfeioclnhnipmaa
