import Derived.Test.YtpopjgplbhnbnaaJo
import Derived.Test.YtpopjgplbhnbnaaJv
import Derived.Test.YtpopjgplbhnbnaaOz
import Derived.Deep.RegionHeld3
import Derived.Deep.RegionWith
import Derived.Deep.MidRow
import Derived.Deep.Cut
namespace Go.Proofs.Ytpopjgplbhnbnaa
section
open Go Go.RowKit
set_option linter.unusedVariables false
set_option linter.unusedSimpArgs false

set_option maxRecDepth 100000 in
set_option maxHeartbeats 8000000 in
theorem aback_yes (kA pA xA qA yA fA : Int) (mA : Bool) (aA bA cA dA : Nat) (ao : Option Addr) (cap : Nat) (l L : List Int) (n8 : Nat) (w : World) (hB : Bytes w (.slice ao l.length cap) l)
    (gm : (if (8 : Int) < (l.length : Int) then (8 : Int) else (l.length : Int)) = (n8 : Int)) (hn8 : n8 ≤ l.length) (h8 : n8 ≤ 8) (hLl : L.length ≤ 1000) (hLB : isB L) (hm8 : L.length % 8 = 0)
    (q1 : ∀ w, Calls Try.prog 6 #[.agg #[.int .i64 kA, .int .i64 pA, .int .i64 xA, .int .i64 qA, .int .i64 yA, .int .i64 fA, .bool mA, .int .u64 (aA : Int), .int .u64 (bA : Int), .int .u64 (cA : Int), .int .u64 (dA : Int)]] w fun e w' => ∃ r, e = .returned (.tuple #[r, .int .i64 0]) ∧ Bytes w' r L ∧ Below w.heap.size w w')
    (qd1 : ∀ v W, Bytes W v (L ++ l.take n8) → Calls Try.prog 16 #[v] W fun e w' => e = .returned (.tuple #[.agg #[.int .i64 kA, .int .i64 pA, .int .i64 xA, .int .i64 qA, .int .i64 yA, .int .i64 fA, .bool mA, .int .u64 (aA : Int), .int .u64 (bA : Int), .int .u64 (cA : Int), .int .u64 (dA : Int)], .int .i64 (L.length : Int), .agg #[.bool false, .int .i64 0, .int .i64 0]]) ∧ Below W.heap.size W w') (hq : (∃ tt cc : Int, ∀ W, Below w.heap.size w W → Calls Try.prog 16 #[.slice ao l.length cap] W fun e w' => e = .returned (.tuple #[.agg #[.int .i64 0, .int .i64 0, .int .i64 0, .int .i64 0, .int .i64 0, .int .i64 0, .bool false, .int .u64 0, .int .u64 0, .int .u64 0, .int .u64 0], .int .i64 0, .agg #[.bool true, .int .i64 tt, .int .i64 cc]]) ∧ Below W.heap.size W w') ∨ ∃ (kB pB xB qB yB fB : Int) (mB : Bool) (aB bB cB dB : Nat) (n : Nat), n ≤ l.length ∧ (∀ W, Below w.heap.size w W → Calls Try.prog 16 #[.slice ao l.length cap] W fun e w' => e = .returned (.tuple #[.agg #[.int .i64 kB, .int .i64 pB, .int .i64 xB, .int .i64 qB, .int .i64 yB, .int .i64 fB, .bool mB, .int .u64 (aB : Int), .int .u64 (bB : Int), .int .u64 (cB : Int), .int .u64 (dB : Int)], .int .i64 (n : Int), .agg #[.bool false, .int .i64 0, .int .i64 0]]) ∧ Below W.heap.size W w') ∧ (∀ w, Calls Try.prog 6 #[.agg #[.int .i64 kB, .int .i64 pB, .int .i64 xB, .int .i64 qB, .int .i64 yB, .int .i64 fB, .bool mB, .int .u64 (aB : Int), .int .u64 (bB : Int), .int .u64 (cB : Int), .int .u64 (dB : Int)]] w fun e w' => ∃ r, e = .returned (.tuple #[r, .int .i64 0]) ∧ Bytes w' r (l.take n) ∧ Below w.heap.size w w')) :
    Calls Try.prog 5 #[.agg #[.int .i64 kA, .int .i64 pA, .int .i64 xA, .int .i64 qA, .int .i64 yA, .int .i64 fA, .bool mA, .int .u64 (aA : Int), .int .u64 (bA : Int), .int .u64 (cA : Int), .int .u64 (dA : Int)], .slice ao l.length cap] w fun e w' => e = .returned (.bool true) ∧ Below w.heap.size w w' := by
  have q1 : ∀ w, Calls Try.prog 6 #[.agg #[.int .i64 kA, .int .i64 pA, .int .i64 xA, .int .i64 qA, .int .i64 yA, .int .i64 fA, .bool mA, .int .u64 (aA : Int), .int .u64 (bA : Int), .int .u64 (cA : Int), .int .u64 (dA : Int)]] w fun e w' => ∃ ar cr, e = .returned (.tuple #[.slice ar L.length cr, .int .i64 0]) ∧ Bytes w' (.slice ar L.length cr) L ∧ Below w.heap.size w w' := fun w => (q1 w).mono (by
    rintro e w' ⟨r, rfl, ⟨ar, cr, rfl, hh⟩, b⟩
    exact ⟨ar, cr, rfl, ⟨ar, cr, rfl, hh⟩, b⟩)
  have aw := hide_ (fun w => awake12_any w)
  have A0 := hide_ (AB.at0 w 28 [.int .i64 kA, .int .i64 pA, .int .i64 xA, .int .i64 qA, .int .i64 yA, .int .i64 fA, .bool mA, .int .u64 (aA : Int), .int .u64 (bA : Int), .int .u64 (cA : Int), .int .u64 (dA : Int)])
  have B0 := hide_ (below1 w (.cells #[.int .i64 kA, .int .i64 pA, .int .i64 xA, .int .i64 qA, .int .i64 yA, .int .i64 fA, .bool mA, .int .u64 (aA : Int), .int .u64 (bA : Int), .int .u64 (cA : Int), .int .u64 (dA : Int)] 28))
  have ht8 : Int.tmod (L.length : Int) 8 = 0 := by rw [Int.tmod_eq_emod_of_nonneg (by omega)]; omega
  have HBh := hide_ hB
  have HQ := hide_ hq
  obtain ⟨s1, s2, s3⟩ := bytes_take hB n8 hn8
  have S30 := hide_ s3
  have IB := hide_ hLB
  have IT := hide_ (isB_take hB.isB_ n8)
  have H63 : Hid (L.length + (l.take n8).length ≤ 140737488355328) := hide_ (by simp; omega)
  obtain ⟨i0, hi0, hz0, hz1, hz2⟩ := info_parts info5
  have HI : Hid (Try.prog.info? 5 = some i0 ∧ i0.zero = some (.int .u8 0) ∧ i0.size = 1 ∧ i0.bytes = 1) := ⟨hi0, hz0, hz1, hz2⟩
  clear hi0 hz0 hz1 hz2
  obtain ⟨ya0, ya1, ya2, ya3, ya4, ya5, ya6, ya7, ya8, ya9, ya10, -⟩ := A0.out.eleven
  have qcl := hide_ (fun v W (h : Bytes W v L) => clone_any v L W h (by omega))
  clear hB hn8 h8 hLl hLB s3 hm8 hq
  have q1 := hide_ q1
  have qd1 := hide_ qd1
  go_enter Try.func5, Try.ntmps5
  go_upto_region 3 with (first | (go_at_call_of 6 (Value.agg #[.int .i64 kA, .int .i64 pA, .int .i64 xA, .int .i64 qA, .int .i64 yA, .int .i64 fA, .bool mA, .int .u64 (aA : Int), .int .u64 (bA : Int), .int .u64 (cA : Int), .int .u64 (dA : Int)]); refine (q1.out _).mono ?_; rintro e w1 ⟨ar, cr, rfl, h1, b1⟩; have h1 := hide_ h1; have k1 := B0.out.trans (b1.mono B0.out.size)))
  have S3 := hide_ (S30.out.later k1)
  have qc : Hid (∀ W, Below w1.heap.size w1 W → Calls Try.prog 18 #[.slice ar L.length cr] W fun e w' => ∃ rc, e = .returned rc ∧ w'.ownsRow W.heap.size 5 1 rc L.length (u8s L) ∧ Below W.heap.size W w') := hide_ (fun W hW => qcl.out _ W (h1.out.later hW))
  go_cut [7, 8, 9] from 22 (fun s7 s8 s9 wx => ∃ g7 g9, s7 = .pointer (some ⟨g7, 0, none⟩) ∧ s8 = .int .i64 (L.length : Int) ∧ s9 = .pointer (some ⟨g9, 0, none⟩) ∧ AB wx g7 28 [.int .i64 kA, .int .i64 pA, .int .i64 xA, .int .i64 qA, .int .i64 yA, .int .i64 fA, .bool mA, .int .u64 (aA : Int), .int .u64 (bA : Int), .int .u64 (cA : Int), .int .u64 (dA : Int)] ∧ AB wx g9 40 [.bool false, .int .i64 0, .int .i64 0] ∧ Below w1.heap.size w1 wx)
  case first =>
    refine wp_region_held_drew (S := (fun w' => Below w1.heap.size w1 w')) (by kernel_rfl) ((Below.refl _ _).drew) (fun hHeld => ?_)
    have kb0 : Below w1.heap.size w1 w1.drew := (Below.refl _ _).drew
    generalize w1.drew = D0 at *
    refine takeR (i := 0) (v := ?_) rfl (by kernel_rfl) (by kernel_rfl) (by kernel_rfl) (some 23) rfl (Or.inl ⟨by rfl, ?_⟩) (fun _ _ _ h => h) (by assumption) ?_
    rotate_left
    · intro w hSw; (try dsimp only at hSw); go_simp; (try with_reducible rfl)
    simp only [Act.put, List.setIfInBounds_toArray, List.set_cons_zero, List.set_cons_succ]
    refine takeR (i := 2) (v := ?_) rfl (by kernel_rfl) (by kernel_rfl) (by kernel_rfl) (some 25) rfl (Or.inl ⟨by rfl, ?_⟩) (fun _ _ _ h => h) (by assumption) ?_
    rotate_left
    · intro w hSw; (try dsimp only at hSw); go_simp; (try with_reducible rfl)
    simp only [Act.put, List.setIfInBounds_toArray, List.set_cons_zero, List.set_cons_succ]
    refine takeR (i := 3) (v := ?_) rfl (by kernel_rfl) (by kernel_rfl) (by kernel_rfl) (some 26) rfl (Or.inl ⟨by rfl, ?_⟩) (fun _ _ _ h => h) (by assumption) ?_
    rotate_left
    · intro w hSw; (try dsimp only at hSw); go_simp; (try with_reducible rfl)
    simp only [Act.put, List.setIfInBounds_toArray, List.set_cons_zero, List.set_cons_succ]
    refine takeR (i := 4) (v := ?_) rfl (by kernel_rfl) (by kernel_rfl) (by kernel_rfl) (some 27) rfl (Or.inl ⟨by rfl, ?_⟩) (fun _ _ _ h => h) (by assumption) ?_
    rotate_left
    · intro w hSw; (try dsimp only at hSw); go_simp; (try with_reducible rfl)
    simp only [Act.put, List.setIfInBounds_toArray, List.set_cons_zero, List.set_cons_succ]
    refine takeR (i := 5) (v := .int .i64 (n8 : Int)) rfl (by kernel_rfl) (by kernel_rfl) (by kernel_rfl) (some 28) rfl (Or.inl ⟨by rfl, ?_⟩) (fun _ _ _ h => h) (by assumption) ?_
    · intro w hSw; (try dsimp only at hSw); go_simp; (first | done | (simp only [gm]) | (rw [gm]))
    simp only [Act.put, List.setIfInBounds_toArray, List.set_cons_zero, List.set_cons_succ]
    refine takeR (i := 6) (v := ?_) rfl (by kernel_rfl) (by kernel_rfl) (by kernel_rfl) (some 29) rfl (Or.inl ⟨by rfl, ?_⟩) (fun _ _ _ h => h) (by assumption) ?_
    rotate_left
    · intro w hSw; (try dsimp only at hSw); go_simp; (try with_reducible rfl)
    simp only [Act.put, List.setIfInBounds_toArray, List.set_cons_zero, List.set_cons_succ]
    refine wpAnyH_ready (rs := [1, 13, 14]) (by kernel_rfl) (by simp) ?_
    refine AllReadyH.cons rfl (fun K hK => ?_) (AllReadyH.cons rfl (fun K hK => ?_) (AllReadyH.cons rfl (fun K hK => ?_) (AllReadyH.nil)))
    · go_simp
      refine (qc.out _ kb0).mono ?_
      rintro e D1 ⟨rc, rfl, own, bj⟩
      refine hK.out _ _ (kb0.trans (bj.mono kb0.size)) (fun hHeld => ?_)
      clear hK K
      try simp only [Act.put, List.setIfInBounds_toArray, List.set_cons_zero, List.set_cons_succ]
      have kb1 := kb0.trans (bj.mono kb0.size)
      have lB : w1.heap.size ≤ D0.heap.size := kb0.size
      replace own := hide_ own
      have lC : D0.heap.size ≤ D1.heap.size := bj.size
      clear bj
      generalize D0.heap.size = bs at *
      refine wpAnyH_ready (rs := [7, 13, 14]) (by kernel_rfl) (by simp) ?_
      refine AllReadyH.cons rfl (fun K hK => ?_) (AllReadyH.cons rfl (fun K hK => ?_) (AllReadyH.cons rfl (fun K hK => ?_) (AllReadyH.nil)))
      · refine step_append_ownB rfl (.tmp 24) (.tmp 29) 29 rfl bs 5 i0 Try.underlying29 HI.out.1 HI.out.2.1 HI.out.2.2.1 HI.out.2.2.2 rc L.length (u8s L) (by first | rfl | simp [Act.eval, Act.put]) own.out (.slice ao n8 cap) (l.take n8) (by first | rfl | simp [Act.eval, Act.put]) (S3.out.later kb1) H63.out lC ?_
        intro va D2 own2 hg
        refine hK.out _ _ (kb1.trans (below_grown hg w1.heap.size kb1.size (fun k e => Nat.le_trans lB (own.out.lt k e).1))) (fun hHeld => ?_)
        clear hK K
        try simp only [Act.put, List.setIfInBounds_toArray, List.set_cons_zero, List.set_cons_succ]
        have kb2 := kb1.trans (below_grown hg w1.heap.size kb1.size (fun k e => Nat.le_trans lB (own.out.lt k e).1))
        have hA := hide_ (bytes_app own2 IB.out IT.out)
        clear own2 hg own
        refine wpAnyH_ready (rs := [8, 13, 14]) (by kernel_rfl) (by simp) ?_
        refine AllReadyH.cons rfl (fun K hK => ?_) (AllReadyH.cons rfl (fun K hK => ?_) (AllReadyH.cons rfl (fun K hK => ?_) (AllReadyH.nil)))
        · go_simp
          refine (qd1.out _ _ hA.out).mono ?_
          rintro e D3 ⟨rfl, bj⟩
          refine hK.out _ _ (kb2.trans (bj.mono kb2.size)) (fun hHeld => ?_)
          clear hK K
          try simp only [Act.put, List.setIfInBounds_toArray, List.set_cons_zero, List.set_cons_succ]
          have kb3 := kb2.trans (bj.mono kb2.size)
          clear bj hA
          refine takeR (i := 9) (v := ?_) rfl (by kernel_rfl) (by kernel_rfl) (by kernel_rfl) (some 22) rfl (Or.inl ⟨by rfl, ?_⟩) (fun _ _ _ h => h) (by assumption) ?_
          rotate_left
          · intro w hSw; (try dsimp only at hSw); go_simp; (try with_reducible rfl)
          simp only [Act.put, List.setIfInBounds_toArray, List.set_cons_zero, List.set_cons_succ]
          refine takeR (i := 10) (v := ?_) rfl (by kernel_rfl) (by kernel_rfl) (by kernel_rfl) (some 32) rfl (Or.inl ⟨by rfl, ?_⟩) (fun _ _ _ h => h) (by assumption) ?_
          rotate_left
          · intro w hSw; (try dsimp only at hSw); go_simp; (try with_reducible rfl)
          simp only [Act.put, List.setIfInBounds_toArray, List.set_cons_zero, List.set_cons_succ]
          refine takeR (i := 11) (v := ?_) rfl (by kernel_rfl) (by kernel_rfl) (by kernel_rfl) (some 33) rfl (Or.inl ⟨by rfl, ?_⟩) (fun _ _ _ h => h) (by assumption) ?_
          rotate_left
          · intro w hSw; (try dsimp only at hSw); go_simp; (try with_reducible rfl)
          simp only [Act.put, List.setIfInBounds_toArray, List.set_cons_zero, List.set_cons_succ]
          refine takeR (i := 12) (v := ?_) rfl (by kernel_rfl) (by kernel_rfl) (by kernel_rfl) (some 34) rfl (Or.inl ⟨by rfl, ?_⟩) (fun _ _ _ h => h) (by assumption) ?_
          rotate_left
          · intro w hSw; (try dsimp only at hSw); go_simp; (try with_reducible rfl)
          simp only [Act.put, List.setIfInBounds_toArray, List.set_cons_zero, List.set_cons_succ]
          refine wpAnyH_ready (rs := [13, 14]) (by kernel_rfl) (by simp) ?_
          refine AllReadyH.cons rfl (fun K hK => ?_) (AllReadyH.cons rfl (fun K hK => ?_) (AllReadyH.nil))
          · go_simp
            refine hK.out _ _ (kb3.trans ((below1 D3 (.cells #[.int .i64 0, .int .i64 0, .int .i64 0, .int .i64 0, .int .i64 0, .int .i64 0, .bool false, .int .u64 0, .int .u64 0, .int .u64 0, .int .u64 0] 28)).mono kb3.size)) (fun hHeld => ?_)
            clear hK K
            try simp only [Act.put, List.setIfInBounds_toArray, List.set_cons_zero, List.set_cons_succ]
            have bj := below1 D3 (.cells #[.int .i64 0, .int .i64 0, .int .i64 0, .int .i64 0, .int .i64 0, .int .i64 0, .bool false, .int .u64 0, .int .u64 0, .int .u64 0, .int .u64 0] 28)
            have kb4 := kb3.trans (bj.mono kb3.size)
            have X := hide_ (AB.at0 D3 28 [.int .i64 0, .int .i64 0, .int .i64 0, .int .i64 0, .int .i64 0, .int .i64 0, .bool false, .int .u64 0, .int .u64 0, .int .u64 0, .int .u64 0])
            have lX : w1.heap.size ≤ D3.heap.size := kb3.size
            clear bj
            generalize D3.alloc (.cells #[.int .i64 0, .int .i64 0, .int .i64 0, .int .i64 0, .int .i64 0, .int .i64 0, .bool false, .int .u64 0, .int .u64 0, .int .u64 0, .int .u64 0] 28) = D4 at *
            generalize D3.heap.size = g7 at *
            refine wpAnyH_ready (rs := [14]) (by kernel_rfl) (by simp) ?_
            refine AllReadyH.cons rfl (fun K hK => ?_) (AllReadyH.nil)
            go_simp
            refine hK.out _ _ (kb4.trans ((below1 D4 (.cells #[.bool false, .int .i64 0, .int .i64 0] 40)).mono kb4.size)) (fun hHeld => ?_)
            clear hK K
            try simp only [Act.put, List.setIfInBounds_toArray, List.set_cons_zero, List.set_cons_succ]
            have ho := X.out.lt
            have bj := below1 D4 (.cells #[.bool false, .int .i64 0, .int .i64 0] 40)
            have kb5 := kb4.trans (bj.mono kb4.size)
            replace X := hide_ (X.out.later bj)
            have G := hide_ (AB.at0 D4 40 [.bool false, .int .i64 0, .int .i64 0])
            have lG : w1.heap.size ≤ D4.heap.size := kb4.size
            have nXG : g7 ≠ D4.heap.size := by omega
            clear ho
            clear bj
            generalize D4.alloc (.cells #[.bool false, .int .i64 0, .int .i64 0] 40) = D5 at *
            generalize D4.heap.size = g9 at *
            refine wpAnyH_ready (rs := [15]) (by kernel_rfl) (by simp) ?_
            refine AllReadyH.cons rfl (fun K hK => ?_) (AllReadyH.nil)
            obtain ⟨z0, z1, z2, z3, z4, z5, z6, z7, z8, z9, z10, z11, z12, z13, z14, z15, z16, z17, z18, z19, z20, z21⟩ := X.out.eleven
            go_simp
            refine hK.out _ _ (below_set11 kb5 lX _ _ _ _ _ _ _ _ _ _ _) (fun hHeld => ?_)
            clear hK K
            try simp only [Act.put, List.setIfInBounds_toArray, List.set_cons_zero, List.set_cons_succ]
            clear z0 z1 z2 z3 z4 z5 z6 z7 z8 z9 z10 z11 z12 z13 z14 z15 z16 z17 z18 z19 z20 z21
            replace G := hide_ (G.out.far11 (h := g7) (Ne.symm nXG) (.int .i64 kA) (.int .i64 pA) (.int .i64 xA) (.int .i64 qA) (.int .i64 yA) (.int .i64 fA) (.bool mA) (.int .u64 (aA : Int)) (.int .u64 (bA : Int)) (.int .u64 (cA : Int)) (.int .u64 (dA : Int)))
            replace X := hide_ (X.out.set11 (.int .i64 kA) (.int .i64 pA) (.int .i64 xA) (.int .i64 qA) (.int .i64 yA) (.int .i64 fA) (.bool mA) (.int .u64 (aA : Int)) (.int .u64 (bA : Int)) (.int .u64 (cA : Int)) (.int .u64 (dA : Int)))
            have kb6 := below_set11 (g := g7) kb5 lX (.int .i64 kA) (.int .i64 pA) (.int .i64 xA) (.int .i64 qA) (.int .i64 yA) (.int .i64 fA) (.bool mA) (.int .u64 (aA : Int)) (.int .u64 (bA : Int)) (.int .u64 (cA : Int)) (.int .u64 (dA : Int))
            generalize (((((((((((D5.setCell ⟨g7, 0, none⟩ (.int .i64 kA)).setCell ⟨g7, 1, none⟩ (.int .i64 pA)).setCell ⟨g7, 2, none⟩ (.int .i64 xA)).setCell ⟨g7, 3, none⟩ (.int .i64 qA)).setCell ⟨g7, 4, none⟩ (.int .i64 yA)).setCell ⟨g7, 5, none⟩ (.int .i64 fA)).setCell ⟨g7, 6, none⟩ (.bool mA)).setCell ⟨g7, 7, none⟩ (.int .u64 (aA : Int))).setCell ⟨g7, 8, none⟩ (.int .u64 (bA : Int))).setCell ⟨g7, 9, none⟩ (.int .u64 (cA : Int))).setCell ⟨g7, 10, none⟩ (.int .u64 (dA : Int))) = D6 at *
            refine takeR (i := 16) (v := ?_) rfl (by kernel_rfl) (by kernel_rfl) (by kernel_rfl) (some 8) rfl (Or.inl ⟨by rfl, ?_⟩) (fun _ _ _ h => h) (by assumption) ?_
            rotate_left
            · intro w hSw; (try dsimp only at hSw); go_simp; (try with_reducible rfl)
            simp only [Act.put, List.setIfInBounds_toArray, List.set_cons_zero, List.set_cons_succ]
            refine wpAnyH_ready (rs := [17]) (by kernel_rfl) (by simp) ?_
            refine AllReadyH.cons rfl (fun K hK => ?_) (AllReadyH.nil)
            obtain ⟨z0, z1, z2, z3, z4, z5⟩ := G.out.three
            go_simp
            refine hK.out _ _ (below_set3 kb6 lG _ _ _) (fun hHeld => ?_)
            clear hK K
            try simp only [Act.put, List.setIfInBounds_toArray, List.set_cons_zero, List.set_cons_succ]
            clear z0 z1 z2 z3 z4 z5
            replace X := hide_ (X.out.far3 (h := g9) nXG (.bool false) (.int .i64 0) (.int .i64 0))
            replace G := hide_ (G.out.set3 (.bool false) (.int .i64 0) (.int .i64 0))
            have kb7 := below_set3 (g := g9) kb6 lG (.bool false) (.int .i64 0) (.int .i64 0)
            generalize (((D6.setCell ⟨g9, 0, none⟩ (.bool false)).setCell ⟨g9, 1, none⟩ (.int .i64 0)).setCell ⟨g9, 2, none⟩ (.int .i64 0)) = D7 at *
            refine wpAnyH_done (by kernel_rfl) ?_ _
            go_wp2_with fail
            go_meet
            exact ⟨g7, g9, rfl, rfl, rfl, X.out, G.out, kb7⟩
          · go_simp
            refine hK.out _ _ (kb3.trans ((below1 D3 (.cells #[.bool false, .int .i64 0, .int .i64 0] 40)).mono kb3.size)) (fun hHeld => ?_)
            clear hK K
            try simp only [Act.put, List.setIfInBounds_toArray, List.set_cons_zero, List.set_cons_succ]
            have bj := below1 D3 (.cells #[.bool false, .int .i64 0, .int .i64 0] 40)
            have kb4 := kb3.trans (bj.mono kb3.size)
            have G := hide_ (AB.at0 D3 40 [.bool false, .int .i64 0, .int .i64 0])
            have lG : w1.heap.size ≤ D3.heap.size := kb3.size
            clear bj
            generalize D3.alloc (.cells #[.bool false, .int .i64 0, .int .i64 0] 40) = D4 at *
            generalize D3.heap.size = g9 at *
            refine wpAnyH_ready (rs := [13]) (by kernel_rfl) (by simp) ?_
            refine AllReadyH.cons rfl (fun K hK => ?_) (AllReadyH.nil)
            go_simp
            refine hK.out _ _ (kb4.trans ((below1 D4 (.cells #[.int .i64 0, .int .i64 0, .int .i64 0, .int .i64 0, .int .i64 0, .int .i64 0, .bool false, .int .u64 0, .int .u64 0, .int .u64 0, .int .u64 0] 28)).mono kb4.size)) (fun hHeld => ?_)
            clear hK K
            try simp only [Act.put, List.setIfInBounds_toArray, List.set_cons_zero, List.set_cons_succ]
            have ho := G.out.lt
            have bj := below1 D4 (.cells #[.int .i64 0, .int .i64 0, .int .i64 0, .int .i64 0, .int .i64 0, .int .i64 0, .bool false, .int .u64 0, .int .u64 0, .int .u64 0, .int .u64 0] 28)
            have kb5 := kb4.trans (bj.mono kb4.size)
            replace G := hide_ (G.out.later bj)
            have X := hide_ (AB.at0 D4 28 [.int .i64 0, .int .i64 0, .int .i64 0, .int .i64 0, .int .i64 0, .int .i64 0, .bool false, .int .u64 0, .int .u64 0, .int .u64 0, .int .u64 0])
            have lX : w1.heap.size ≤ D4.heap.size := kb4.size
            have nXG : D4.heap.size ≠ g9 := by omega
            clear ho
            clear bj
            generalize D4.alloc (.cells #[.int .i64 0, .int .i64 0, .int .i64 0, .int .i64 0, .int .i64 0, .int .i64 0, .bool false, .int .u64 0, .int .u64 0, .int .u64 0, .int .u64 0] 28) = D5 at *
            generalize D4.heap.size = g7 at *
            refine wpAnyH_ready (rs := [15]) (by kernel_rfl) (by simp) ?_
            refine AllReadyH.cons rfl (fun K hK => ?_) (AllReadyH.nil)
            obtain ⟨z0, z1, z2, z3, z4, z5, z6, z7, z8, z9, z10, z11, z12, z13, z14, z15, z16, z17, z18, z19, z20, z21⟩ := X.out.eleven
            go_simp
            refine hK.out _ _ (below_set11 kb5 lX _ _ _ _ _ _ _ _ _ _ _) (fun hHeld => ?_)
            clear hK K
            try simp only [Act.put, List.setIfInBounds_toArray, List.set_cons_zero, List.set_cons_succ]
            clear z0 z1 z2 z3 z4 z5 z6 z7 z8 z9 z10 z11 z12 z13 z14 z15 z16 z17 z18 z19 z20 z21
            replace G := hide_ (G.out.far11 (h := g7) (Ne.symm nXG) (.int .i64 kA) (.int .i64 pA) (.int .i64 xA) (.int .i64 qA) (.int .i64 yA) (.int .i64 fA) (.bool mA) (.int .u64 (aA : Int)) (.int .u64 (bA : Int)) (.int .u64 (cA : Int)) (.int .u64 (dA : Int)))
            replace X := hide_ (X.out.set11 (.int .i64 kA) (.int .i64 pA) (.int .i64 xA) (.int .i64 qA) (.int .i64 yA) (.int .i64 fA) (.bool mA) (.int .u64 (aA : Int)) (.int .u64 (bA : Int)) (.int .u64 (cA : Int)) (.int .u64 (dA : Int)))
            have kb6 := below_set11 (g := g7) kb5 lX (.int .i64 kA) (.int .i64 pA) (.int .i64 xA) (.int .i64 qA) (.int .i64 yA) (.int .i64 fA) (.bool mA) (.int .u64 (aA : Int)) (.int .u64 (bA : Int)) (.int .u64 (cA : Int)) (.int .u64 (dA : Int))
            generalize (((((((((((D5.setCell ⟨g7, 0, none⟩ (.int .i64 kA)).setCell ⟨g7, 1, none⟩ (.int .i64 pA)).setCell ⟨g7, 2, none⟩ (.int .i64 xA)).setCell ⟨g7, 3, none⟩ (.int .i64 qA)).setCell ⟨g7, 4, none⟩ (.int .i64 yA)).setCell ⟨g7, 5, none⟩ (.int .i64 fA)).setCell ⟨g7, 6, none⟩ (.bool mA)).setCell ⟨g7, 7, none⟩ (.int .u64 (aA : Int))).setCell ⟨g7, 8, none⟩ (.int .u64 (bA : Int))).setCell ⟨g7, 9, none⟩ (.int .u64 (cA : Int))).setCell ⟨g7, 10, none⟩ (.int .u64 (dA : Int))) = D6 at *
            refine takeR (i := 16) (v := ?_) rfl (by kernel_rfl) (by kernel_rfl) (by kernel_rfl) (some 8) rfl (Or.inl ⟨by rfl, ?_⟩) (fun _ _ _ h => h) (by assumption) ?_
            rotate_left
            · intro w hSw; (try dsimp only at hSw); go_simp; (try with_reducible rfl)
            simp only [Act.put, List.setIfInBounds_toArray, List.set_cons_zero, List.set_cons_succ]
            refine wpAnyH_ready (rs := [17]) (by kernel_rfl) (by simp) ?_
            refine AllReadyH.cons rfl (fun K hK => ?_) (AllReadyH.nil)
            obtain ⟨z0, z1, z2, z3, z4, z5⟩ := G.out.three
            go_simp
            refine hK.out _ _ (below_set3 kb6 lG _ _ _) (fun hHeld => ?_)
            clear hK K
            try simp only [Act.put, List.setIfInBounds_toArray, List.set_cons_zero, List.set_cons_succ]
            clear z0 z1 z2 z3 z4 z5
            replace X := hide_ (X.out.far3 (h := g9) nXG (.bool false) (.int .i64 0) (.int .i64 0))
            replace G := hide_ (G.out.set3 (.bool false) (.int .i64 0) (.int .i64 0))
            have kb7 := below_set3 (g := g9) kb6 lG (.bool false) (.int .i64 0) (.int .i64 0)
            generalize (((D6.setCell ⟨g9, 0, none⟩ (.bool false)).setCell ⟨g9, 1, none⟩ (.int .i64 0)).setCell ⟨g9, 2, none⟩ (.int .i64 0)) = D7 at *
            refine wpAnyH_done (by kernel_rfl) ?_ _
            go_wp2_with fail
            go_meet
            exact ⟨g7, g9, rfl, rfl, rfl, X.out, G.out, kb7⟩
        · go_simp
          refine hK.out _ _ (kb2.trans ((below1 D2 (.cells #[.int .i64 0, .int .i64 0, .int .i64 0, .int .i64 0, .int .i64 0, .int .i64 0, .bool false, .int .u64 0, .int .u64 0, .int .u64 0, .int .u64 0] 28)).mono kb2.size)) (fun hHeld => ?_)
          clear hK K
          try simp only [Act.put, List.setIfInBounds_toArray, List.set_cons_zero, List.set_cons_succ]
          have bj := below1 D2 (.cells #[.int .i64 0, .int .i64 0, .int .i64 0, .int .i64 0, .int .i64 0, .int .i64 0, .bool false, .int .u64 0, .int .u64 0, .int .u64 0, .int .u64 0] 28)
          have kb3 := kb2.trans (bj.mono kb2.size)
          replace hA := hide_ (hA.out.later bj)
          have X := hide_ (AB.at0 D2 28 [.int .i64 0, .int .i64 0, .int .i64 0, .int .i64 0, .int .i64 0, .int .i64 0, .bool false, .int .u64 0, .int .u64 0, .int .u64 0, .int .u64 0])
          have lX : w1.heap.size ≤ D2.heap.size := kb2.size
          clear bj
          generalize D2.alloc (.cells #[.int .i64 0, .int .i64 0, .int .i64 0, .int .i64 0, .int .i64 0, .int .i64 0, .bool false, .int .u64 0, .int .u64 0, .int .u64 0, .int .u64 0] 28) = D3 at *
          generalize D2.heap.size = g7 at *
          refine wpAnyH_ready (rs := [8, 14]) (by kernel_rfl) (by simp) ?_
          refine AllReadyH.cons rfl (fun K hK => ?_) (AllReadyH.cons rfl (fun K hK => ?_) (AllReadyH.nil))
          · go_simp
            refine (qd1.out _ _ hA.out).mono ?_
            rintro e D4 ⟨rfl, bj⟩
            refine hK.out _ _ (kb3.trans (bj.mono kb3.size)) (fun hHeld => ?_)
            clear hK K
            try simp only [Act.put, List.setIfInBounds_toArray, List.set_cons_zero, List.set_cons_succ]
            have kb4 := kb3.trans (bj.mono kb3.size)
            replace X := hide_ (X.out.later bj)
            clear bj hA
            refine takeR (i := 9) (v := ?_) rfl (by kernel_rfl) (by kernel_rfl) (by kernel_rfl) (some 22) rfl (Or.inl ⟨by rfl, ?_⟩) (fun _ _ _ h => h) (by assumption) ?_
            rotate_left
            · intro w hSw; (try dsimp only at hSw); go_simp; (try with_reducible rfl)
            simp only [Act.put, List.setIfInBounds_toArray, List.set_cons_zero, List.set_cons_succ]
            refine takeR (i := 10) (v := ?_) rfl (by kernel_rfl) (by kernel_rfl) (by kernel_rfl) (some 32) rfl (Or.inl ⟨by rfl, ?_⟩) (fun _ _ _ h => h) (by assumption) ?_
            rotate_left
            · intro w hSw; (try dsimp only at hSw); go_simp; (try with_reducible rfl)
            simp only [Act.put, List.setIfInBounds_toArray, List.set_cons_zero, List.set_cons_succ]
            refine takeR (i := 11) (v := ?_) rfl (by kernel_rfl) (by kernel_rfl) (by kernel_rfl) (some 33) rfl (Or.inl ⟨by rfl, ?_⟩) (fun _ _ _ h => h) (by assumption) ?_
            rotate_left
            · intro w hSw; (try dsimp only at hSw); go_simp; (try with_reducible rfl)
            simp only [Act.put, List.setIfInBounds_toArray, List.set_cons_zero, List.set_cons_succ]
            refine takeR (i := 12) (v := ?_) rfl (by kernel_rfl) (by kernel_rfl) (by kernel_rfl) (some 34) rfl (Or.inl ⟨by rfl, ?_⟩) (fun _ _ _ h => h) (by assumption) ?_
            rotate_left
            · intro w hSw; (try dsimp only at hSw); go_simp; (try with_reducible rfl)
            simp only [Act.put, List.setIfInBounds_toArray, List.set_cons_zero, List.set_cons_succ]
            refine wpAnyH_ready (rs := [14]) (by kernel_rfl) (by simp) ?_
            refine AllReadyH.cons rfl (fun K hK => ?_) (AllReadyH.nil)
            go_simp
            refine hK.out _ _ (kb4.trans ((below1 D4 (.cells #[.bool false, .int .i64 0, .int .i64 0] 40)).mono kb4.size)) (fun hHeld => ?_)
            clear hK K
            try simp only [Act.put, List.setIfInBounds_toArray, List.set_cons_zero, List.set_cons_succ]
            have ho := X.out.lt
            have bj := below1 D4 (.cells #[.bool false, .int .i64 0, .int .i64 0] 40)
            have kb5 := kb4.trans (bj.mono kb4.size)
            replace X := hide_ (X.out.later bj)
            have G := hide_ (AB.at0 D4 40 [.bool false, .int .i64 0, .int .i64 0])
            have lG : w1.heap.size ≤ D4.heap.size := kb4.size
            have nXG : g7 ≠ D4.heap.size := by omega
            clear ho
            clear bj
            generalize D4.alloc (.cells #[.bool false, .int .i64 0, .int .i64 0] 40) = D5 at *
            generalize D4.heap.size = g9 at *
            refine wpAnyH_ready (rs := [15]) (by kernel_rfl) (by simp) ?_
            refine AllReadyH.cons rfl (fun K hK => ?_) (AllReadyH.nil)
            obtain ⟨z0, z1, z2, z3, z4, z5, z6, z7, z8, z9, z10, z11, z12, z13, z14, z15, z16, z17, z18, z19, z20, z21⟩ := X.out.eleven
            go_simp
            refine hK.out _ _ (below_set11 kb5 lX _ _ _ _ _ _ _ _ _ _ _) (fun hHeld => ?_)
            clear hK K
            try simp only [Act.put, List.setIfInBounds_toArray, List.set_cons_zero, List.set_cons_succ]
            clear z0 z1 z2 z3 z4 z5 z6 z7 z8 z9 z10 z11 z12 z13 z14 z15 z16 z17 z18 z19 z20 z21
            replace G := hide_ (G.out.far11 (h := g7) (Ne.symm nXG) (.int .i64 kA) (.int .i64 pA) (.int .i64 xA) (.int .i64 qA) (.int .i64 yA) (.int .i64 fA) (.bool mA) (.int .u64 (aA : Int)) (.int .u64 (bA : Int)) (.int .u64 (cA : Int)) (.int .u64 (dA : Int)))
            replace X := hide_ (X.out.set11 (.int .i64 kA) (.int .i64 pA) (.int .i64 xA) (.int .i64 qA) (.int .i64 yA) (.int .i64 fA) (.bool mA) (.int .u64 (aA : Int)) (.int .u64 (bA : Int)) (.int .u64 (cA : Int)) (.int .u64 (dA : Int)))
            have kb6 := below_set11 (g := g7) kb5 lX (.int .i64 kA) (.int .i64 pA) (.int .i64 xA) (.int .i64 qA) (.int .i64 yA) (.int .i64 fA) (.bool mA) (.int .u64 (aA : Int)) (.int .u64 (bA : Int)) (.int .u64 (cA : Int)) (.int .u64 (dA : Int))
            generalize (((((((((((D5.setCell ⟨g7, 0, none⟩ (.int .i64 kA)).setCell ⟨g7, 1, none⟩ (.int .i64 pA)).setCell ⟨g7, 2, none⟩ (.int .i64 xA)).setCell ⟨g7, 3, none⟩ (.int .i64 qA)).setCell ⟨g7, 4, none⟩ (.int .i64 yA)).setCell ⟨g7, 5, none⟩ (.int .i64 fA)).setCell ⟨g7, 6, none⟩ (.bool mA)).setCell ⟨g7, 7, none⟩ (.int .u64 (aA : Int))).setCell ⟨g7, 8, none⟩ (.int .u64 (bA : Int))).setCell ⟨g7, 9, none⟩ (.int .u64 (cA : Int))).setCell ⟨g7, 10, none⟩ (.int .u64 (dA : Int))) = D6 at *
            refine takeR (i := 16) (v := ?_) rfl (by kernel_rfl) (by kernel_rfl) (by kernel_rfl) (some 8) rfl (Or.inl ⟨by rfl, ?_⟩) (fun _ _ _ h => h) (by assumption) ?_
            rotate_left
            · intro w hSw; (try dsimp only at hSw); go_simp; (try with_reducible rfl)
            simp only [Act.put, List.setIfInBounds_toArray, List.set_cons_zero, List.set_cons_succ]
            refine wpAnyH_ready (rs := [17]) (by kernel_rfl) (by simp) ?_
            refine AllReadyH.cons rfl (fun K hK => ?_) (AllReadyH.nil)
            obtain ⟨z0, z1, z2, z3, z4, z5⟩ := G.out.three
            go_simp
            refine hK.out _ _ (below_set3 kb6 lG _ _ _) (fun hHeld => ?_)
            clear hK K
            try simp only [Act.put, List.setIfInBounds_toArray, List.set_cons_zero, List.set_cons_succ]
            clear z0 z1 z2 z3 z4 z5
            replace X := hide_ (X.out.far3 (h := g9) nXG (.bool false) (.int .i64 0) (.int .i64 0))
            replace G := hide_ (G.out.set3 (.bool false) (.int .i64 0) (.int .i64 0))
            have kb7 := below_set3 (g := g9) kb6 lG (.bool false) (.int .i64 0) (.int .i64 0)
            generalize (((D6.setCell ⟨g9, 0, none⟩ (.bool false)).setCell ⟨g9, 1, none⟩ (.int .i64 0)).setCell ⟨g9, 2, none⟩ (.int .i64 0)) = D7 at *
            refine wpAnyH_done (by kernel_rfl) ?_ _
            go_wp2_with fail
            go_meet
            exact ⟨g7, g9, rfl, rfl, rfl, X.out, G.out, kb7⟩
          · go_simp
            refine hK.out _ _ (kb3.trans ((below1 D3 (.cells #[.bool false, .int .i64 0, .int .i64 0] 40)).mono kb3.size)) (fun hHeld => ?_)
            clear hK K
            try simp only [Act.put, List.setIfInBounds_toArray, List.set_cons_zero, List.set_cons_succ]
            have ho := X.out.lt
            have bj := below1 D3 (.cells #[.bool false, .int .i64 0, .int .i64 0] 40)
            have kb4 := kb3.trans (bj.mono kb3.size)
            replace X := hide_ (X.out.later bj)
            replace hA := hide_ (hA.out.later bj)
            have G := hide_ (AB.at0 D3 40 [.bool false, .int .i64 0, .int .i64 0])
            have lG : w1.heap.size ≤ D3.heap.size := kb3.size
            have nXG : g7 ≠ D3.heap.size := by omega
            clear ho
            clear bj
            generalize D3.alloc (.cells #[.bool false, .int .i64 0, .int .i64 0] 40) = D4 at *
            generalize D3.heap.size = g9 at *
            refine wpAnyH_ready (rs := [8]) (by kernel_rfl) (by simp) ?_
            refine AllReadyH.cons rfl (fun K hK => ?_) (AllReadyH.nil)
            go_simp
            refine (qd1.out _ _ hA.out).mono ?_
            rintro e D5 ⟨rfl, bj⟩
            refine hK.out _ _ (kb4.trans (bj.mono kb4.size)) (fun hHeld => ?_)
            clear hK K
            try simp only [Act.put, List.setIfInBounds_toArray, List.set_cons_zero, List.set_cons_succ]
            have kb5 := kb4.trans (bj.mono kb4.size)
            replace X := hide_ (X.out.later bj)
            replace G := hide_ (G.out.later bj)
            clear bj hA
            refine takeR (i := 9) (v := ?_) rfl (by kernel_rfl) (by kernel_rfl) (by kernel_rfl) (some 22) rfl (Or.inl ⟨by rfl, ?_⟩) (fun _ _ _ h => h) (by assumption) ?_
            rotate_left
            · intro w hSw; (try dsimp only at hSw); go_simp; (try with_reducible rfl)
            simp only [Act.put, List.setIfInBounds_toArray, List.set_cons_zero, List.set_cons_succ]
            refine takeR (i := 10) (v := ?_) rfl (by kernel_rfl) (by kernel_rfl) (by kernel_rfl) (some 32) rfl (Or.inl ⟨by rfl, ?_⟩) (fun _ _ _ h => h) (by assumption) ?_
            rotate_left
            · intro w hSw; (try dsimp only at hSw); go_simp; (try with_reducible rfl)
            simp only [Act.put, List.setIfInBounds_toArray, List.set_cons_zero, List.set_cons_succ]
            refine takeR (i := 11) (v := ?_) rfl (by kernel_rfl) (by kernel_rfl) (by kernel_rfl) (some 33) rfl (Or.inl ⟨by rfl, ?_⟩) (fun _ _ _ h => h) (by assumption) ?_
            rotate_left
            · intro w hSw; (try dsimp only at hSw); go_simp; (try with_reducible rfl)
            simp only [Act.put, List.setIfInBounds_toArray, List.set_cons_zero, List.set_cons_succ]
            refine takeR (i := 12) (v := ?_) rfl (by kernel_rfl) (by kernel_rfl) (by kernel_rfl) (some 34) rfl (Or.inl ⟨by rfl, ?_⟩) (fun _ _ _ h => h) (by assumption) ?_
            rotate_left
            · intro w hSw; (try dsimp only at hSw); go_simp; (try with_reducible rfl)
            simp only [Act.put, List.setIfInBounds_toArray, List.set_cons_zero, List.set_cons_succ]
            refine wpAnyH_ready (rs := [15]) (by kernel_rfl) (by simp) ?_
            refine AllReadyH.cons rfl (fun K hK => ?_) (AllReadyH.nil)
            obtain ⟨z0, z1, z2, z3, z4, z5, z6, z7, z8, z9, z10, z11, z12, z13, z14, z15, z16, z17, z18, z19, z20, z21⟩ := X.out.eleven
            go_simp
            refine hK.out _ _ (below_set11 kb5 lX _ _ _ _ _ _ _ _ _ _ _) (fun hHeld => ?_)
            clear hK K
            try simp only [Act.put, List.setIfInBounds_toArray, List.set_cons_zero, List.set_cons_succ]
            clear z0 z1 z2 z3 z4 z5 z6 z7 z8 z9 z10 z11 z12 z13 z14 z15 z16 z17 z18 z19 z20 z21
            replace G := hide_ (G.out.far11 (h := g7) (Ne.symm nXG) (.int .i64 kA) (.int .i64 pA) (.int .i64 xA) (.int .i64 qA) (.int .i64 yA) (.int .i64 fA) (.bool mA) (.int .u64 (aA : Int)) (.int .u64 (bA : Int)) (.int .u64 (cA : Int)) (.int .u64 (dA : Int)))
            replace X := hide_ (X.out.set11 (.int .i64 kA) (.int .i64 pA) (.int .i64 xA) (.int .i64 qA) (.int .i64 yA) (.int .i64 fA) (.bool mA) (.int .u64 (aA : Int)) (.int .u64 (bA : Int)) (.int .u64 (cA : Int)) (.int .u64 (dA : Int)))
            have kb6 := below_set11 (g := g7) kb5 lX (.int .i64 kA) (.int .i64 pA) (.int .i64 xA) (.int .i64 qA) (.int .i64 yA) (.int .i64 fA) (.bool mA) (.int .u64 (aA : Int)) (.int .u64 (bA : Int)) (.int .u64 (cA : Int)) (.int .u64 (dA : Int))
            generalize (((((((((((D5.setCell ⟨g7, 0, none⟩ (.int .i64 kA)).setCell ⟨g7, 1, none⟩ (.int .i64 pA)).setCell ⟨g7, 2, none⟩ (.int .i64 xA)).setCell ⟨g7, 3, none⟩ (.int .i64 qA)).setCell ⟨g7, 4, none⟩ (.int .i64 yA)).setCell ⟨g7, 5, none⟩ (.int .i64 fA)).setCell ⟨g7, 6, none⟩ (.bool mA)).setCell ⟨g7, 7, none⟩ (.int .u64 (aA : Int))).setCell ⟨g7, 8, none⟩ (.int .u64 (bA : Int))).setCell ⟨g7, 9, none⟩ (.int .u64 (cA : Int))).setCell ⟨g7, 10, none⟩ (.int .u64 (dA : Int))) = D6 at *
            refine takeR (i := 16) (v := ?_) rfl (by kernel_rfl) (by kernel_rfl) (by kernel_rfl) (some 8) rfl (Or.inl ⟨by rfl, ?_⟩) (fun _ _ _ h => h) (by assumption) ?_
            rotate_left
            · intro w hSw; (try dsimp only at hSw); go_simp; (try with_reducible rfl)
            simp only [Act.put, List.setIfInBounds_toArray, List.set_cons_zero, List.set_cons_succ]
            refine wpAnyH_ready (rs := [17]) (by kernel_rfl) (by simp) ?_
            refine AllReadyH.cons rfl (fun K hK => ?_) (AllReadyH.nil)
            obtain ⟨z0, z1, z2, z3, z4, z5⟩ := G.out.three
            go_simp
            refine hK.out _ _ (below_set3 kb6 lG _ _ _) (fun hHeld => ?_)
            clear hK K
            try simp only [Act.put, List.setIfInBounds_toArray, List.set_cons_zero, List.set_cons_succ]
            clear z0 z1 z2 z3 z4 z5
            replace X := hide_ (X.out.far3 (h := g9) nXG (.bool false) (.int .i64 0) (.int .i64 0))
            replace G := hide_ (G.out.set3 (.bool false) (.int .i64 0) (.int .i64 0))
            have kb7 := below_set3 (g := g9) kb6 lG (.bool false) (.int .i64 0) (.int .i64 0)
            generalize (((D6.setCell ⟨g9, 0, none⟩ (.bool false)).setCell ⟨g9, 1, none⟩ (.int .i64 0)).setCell ⟨g9, 2, none⟩ (.int .i64 0)) = D7 at *
            refine wpAnyH_done (by kernel_rfl) ?_ _
            go_wp2_with fail
            go_meet
            exact ⟨g7, g9, rfl, rfl, rfl, X.out, G.out, kb7⟩
        · go_simp
          refine hK.out _ _ (kb2.trans ((below1 D2 (.cells #[.bool false, .int .i64 0, .int .i64 0] 40)).mono kb2.size)) (fun hHeld => ?_)
          clear hK K
          try simp only [Act.put, List.setIfInBounds_toArray, List.set_cons_zero, List.set_cons_succ]
          have bj := below1 D2 (.cells #[.bool false, .int .i64 0, .int .i64 0] 40)
          have kb3 := kb2.trans (bj.mono kb2.size)
          replace hA := hide_ (hA.out.later bj)
          have G := hide_ (AB.at0 D2 40 [.bool false, .int .i64 0, .int .i64 0])
          have lG : w1.heap.size ≤ D2.heap.size := kb2.size
          clear bj
          generalize D2.alloc (.cells #[.bool false, .int .i64 0, .int .i64 0] 40) = D3 at *
          generalize D2.heap.size = g9 at *
          refine wpAnyH_ready (rs := [8, 13]) (by kernel_rfl) (by simp) ?_
          refine AllReadyH.cons rfl (fun K hK => ?_) (AllReadyH.cons rfl (fun K hK => ?_) (AllReadyH.nil))
          · go_simp
            refine (qd1.out _ _ hA.out).mono ?_
            rintro e D4 ⟨rfl, bj⟩
            refine hK.out _ _ (kb3.trans (bj.mono kb3.size)) (fun hHeld => ?_)
            clear hK K
            try simp only [Act.put, List.setIfInBounds_toArray, List.set_cons_zero, List.set_cons_succ]
            have kb4 := kb3.trans (bj.mono kb3.size)
            replace G := hide_ (G.out.later bj)
            clear bj hA
            refine takeR (i := 9) (v := ?_) rfl (by kernel_rfl) (by kernel_rfl) (by kernel_rfl) (some 22) rfl (Or.inl ⟨by rfl, ?_⟩) (fun _ _ _ h => h) (by assumption) ?_
            rotate_left
            · intro w hSw; (try dsimp only at hSw); go_simp; (try with_reducible rfl)
            simp only [Act.put, List.setIfInBounds_toArray, List.set_cons_zero, List.set_cons_succ]
            refine takeR (i := 10) (v := ?_) rfl (by kernel_rfl) (by kernel_rfl) (by kernel_rfl) (some 32) rfl (Or.inl ⟨by rfl, ?_⟩) (fun _ _ _ h => h) (by assumption) ?_
            rotate_left
            · intro w hSw; (try dsimp only at hSw); go_simp; (try with_reducible rfl)
            simp only [Act.put, List.setIfInBounds_toArray, List.set_cons_zero, List.set_cons_succ]
            refine takeR (i := 11) (v := ?_) rfl (by kernel_rfl) (by kernel_rfl) (by kernel_rfl) (some 33) rfl (Or.inl ⟨by rfl, ?_⟩) (fun _ _ _ h => h) (by assumption) ?_
            rotate_left
            · intro w hSw; (try dsimp only at hSw); go_simp; (try with_reducible rfl)
            simp only [Act.put, List.setIfInBounds_toArray, List.set_cons_zero, List.set_cons_succ]
            refine takeR (i := 12) (v := ?_) rfl (by kernel_rfl) (by kernel_rfl) (by kernel_rfl) (some 34) rfl (Or.inl ⟨by rfl, ?_⟩) (fun _ _ _ h => h) (by assumption) ?_
            rotate_left
            · intro w hSw; (try dsimp only at hSw); go_simp; (try with_reducible rfl)
            simp only [Act.put, List.setIfInBounds_toArray, List.set_cons_zero, List.set_cons_succ]
            refine wpAnyH_ready (rs := [13]) (by kernel_rfl) (by simp) ?_
            refine AllReadyH.cons rfl (fun K hK => ?_) (AllReadyH.nil)
            go_simp
            refine hK.out _ _ (kb4.trans ((below1 D4 (.cells #[.int .i64 0, .int .i64 0, .int .i64 0, .int .i64 0, .int .i64 0, .int .i64 0, .bool false, .int .u64 0, .int .u64 0, .int .u64 0, .int .u64 0] 28)).mono kb4.size)) (fun hHeld => ?_)
            clear hK K
            try simp only [Act.put, List.setIfInBounds_toArray, List.set_cons_zero, List.set_cons_succ]
            have ho := G.out.lt
            have bj := below1 D4 (.cells #[.int .i64 0, .int .i64 0, .int .i64 0, .int .i64 0, .int .i64 0, .int .i64 0, .bool false, .int .u64 0, .int .u64 0, .int .u64 0, .int .u64 0] 28)
            have kb5 := kb4.trans (bj.mono kb4.size)
            replace G := hide_ (G.out.later bj)
            have X := hide_ (AB.at0 D4 28 [.int .i64 0, .int .i64 0, .int .i64 0, .int .i64 0, .int .i64 0, .int .i64 0, .bool false, .int .u64 0, .int .u64 0, .int .u64 0, .int .u64 0])
            have lX : w1.heap.size ≤ D4.heap.size := kb4.size
            have nXG : D4.heap.size ≠ g9 := by omega
            clear ho
            clear bj
            generalize D4.alloc (.cells #[.int .i64 0, .int .i64 0, .int .i64 0, .int .i64 0, .int .i64 0, .int .i64 0, .bool false, .int .u64 0, .int .u64 0, .int .u64 0, .int .u64 0] 28) = D5 at *
            generalize D4.heap.size = g7 at *
            refine wpAnyH_ready (rs := [15]) (by kernel_rfl) (by simp) ?_
            refine AllReadyH.cons rfl (fun K hK => ?_) (AllReadyH.nil)
            obtain ⟨z0, z1, z2, z3, z4, z5, z6, z7, z8, z9, z10, z11, z12, z13, z14, z15, z16, z17, z18, z19, z20, z21⟩ := X.out.eleven
            go_simp
            refine hK.out _ _ (below_set11 kb5 lX _ _ _ _ _ _ _ _ _ _ _) (fun hHeld => ?_)
            clear hK K
            try simp only [Act.put, List.setIfInBounds_toArray, List.set_cons_zero, List.set_cons_succ]
            clear z0 z1 z2 z3 z4 z5 z6 z7 z8 z9 z10 z11 z12 z13 z14 z15 z16 z17 z18 z19 z20 z21
            replace G := hide_ (G.out.far11 (h := g7) (Ne.symm nXG) (.int .i64 kA) (.int .i64 pA) (.int .i64 xA) (.int .i64 qA) (.int .i64 yA) (.int .i64 fA) (.bool mA) (.int .u64 (aA : Int)) (.int .u64 (bA : Int)) (.int .u64 (cA : Int)) (.int .u64 (dA : Int)))
            replace X := hide_ (X.out.set11 (.int .i64 kA) (.int .i64 pA) (.int .i64 xA) (.int .i64 qA) (.int .i64 yA) (.int .i64 fA) (.bool mA) (.int .u64 (aA : Int)) (.int .u64 (bA : Int)) (.int .u64 (cA : Int)) (.int .u64 (dA : Int)))
            have kb6 := below_set11 (g := g7) kb5 lX (.int .i64 kA) (.int .i64 pA) (.int .i64 xA) (.int .i64 qA) (.int .i64 yA) (.int .i64 fA) (.bool mA) (.int .u64 (aA : Int)) (.int .u64 (bA : Int)) (.int .u64 (cA : Int)) (.int .u64 (dA : Int))
            generalize (((((((((((D5.setCell ⟨g7, 0, none⟩ (.int .i64 kA)).setCell ⟨g7, 1, none⟩ (.int .i64 pA)).setCell ⟨g7, 2, none⟩ (.int .i64 xA)).setCell ⟨g7, 3, none⟩ (.int .i64 qA)).setCell ⟨g7, 4, none⟩ (.int .i64 yA)).setCell ⟨g7, 5, none⟩ (.int .i64 fA)).setCell ⟨g7, 6, none⟩ (.bool mA)).setCell ⟨g7, 7, none⟩ (.int .u64 (aA : Int))).setCell ⟨g7, 8, none⟩ (.int .u64 (bA : Int))).setCell ⟨g7, 9, none⟩ (.int .u64 (cA : Int))).setCell ⟨g7, 10, none⟩ (.int .u64 (dA : Int))) = D6 at *
            refine takeR (i := 16) (v := ?_) rfl (by kernel_rfl) (by kernel_rfl) (by kernel_rfl) (some 8) rfl (Or.inl ⟨by rfl, ?_⟩) (fun _ _ _ h => h) (by assumption) ?_
            rotate_left
            · intro w hSw; (try dsimp only at hSw); go_simp; (try with_reducible rfl)
            simp only [Act.put, List.setIfInBounds_toArray, List.set_cons_zero, List.set_cons_succ]
            refine wpAnyH_ready (rs := [17]) (by kernel_rfl) (by simp) ?_
            refine AllReadyH.cons rfl (fun K hK => ?_) (AllReadyH.nil)
            obtain ⟨z0, z1, z2, z3, z4, z5⟩ := G.out.three
            go_simp
            refine hK.out _ _ (below_set3 kb6 lG _ _ _) (fun hHeld => ?_)
            clear hK K
            try simp only [Act.put, List.setIfInBounds_toArray, List.set_cons_zero, List.set_cons_succ]
            clear z0 z1 z2 z3 z4 z5
            replace X := hide_ (X.out.far3 (h := g9) nXG (.bool false) (.int .i64 0) (.int .i64 0))
            replace G := hide_ (G.out.set3 (.bool false) (.int .i64 0) (.int .i64 0))
            have kb7 := below_set3 (g := g9) kb6 lG (.bool false) (.int .i64 0) (.int .i64 0)
            generalize (((D6.setCell ⟨g9, 0, none⟩ (.bool false)).setCell ⟨g9, 1, none⟩ (.int .i64 0)).setCell ⟨g9, 2, none⟩ (.int .i64 0)) = D7 at *
            refine wpAnyH_done (by kernel_rfl) ?_ _
            go_wp2_with fail
            go_meet
            exact ⟨g7, g9, rfl, rfl, rfl, X.out, G.out, kb7⟩
          · go_simp
            refine hK.out _ _ (kb3.trans ((below1 D3 (.cells #[.int .i64 0, .int .i64 0, .int .i64 0, .int .i64 0, .int .i64 0, .int .i64 0, .bool false, .int .u64 0, .int .u64 0, .int .u64 0, .int .u64 0] 28)).mono kb3.size)) (fun hHeld => ?_)
            clear hK K
            try simp only [Act.put, List.setIfInBounds_toArray, List.set_cons_zero, List.set_cons_succ]
            have ho := G.out.lt
            have bj := below1 D3 (.cells #[.int .i64 0, .int .i64 0, .int .i64 0, .int .i64 0, .int .i64 0, .int .i64 0, .bool false, .int .u64 0, .int .u64 0, .int .u64 0, .int .u64 0] 28)
            have kb4 := kb3.trans (bj.mono kb3.size)
            replace G := hide_ (G.out.later bj)
            replace hA := hide_ (hA.out.later bj)
            have X := hide_ (AB.at0 D3 28 [.int .i64 0, .int .i64 0, .int .i64 0, .int .i64 0, .int .i64 0, .int .i64 0, .bool false, .int .u64 0, .int .u64 0, .int .u64 0, .int .u64 0])
            have lX : w1.heap.size ≤ D3.heap.size := kb3.size
            have nXG : D3.heap.size ≠ g9 := by omega
            clear ho
            clear bj
            generalize D3.alloc (.cells #[.int .i64 0, .int .i64 0, .int .i64 0, .int .i64 0, .int .i64 0, .int .i64 0, .bool false, .int .u64 0, .int .u64 0, .int .u64 0, .int .u64 0] 28) = D4 at *
            generalize D3.heap.size = g7 at *
            refine wpAnyH_ready (rs := [8]) (by kernel_rfl) (by simp) ?_
            refine AllReadyH.cons rfl (fun K hK => ?_) (AllReadyH.nil)
            go_simp
            refine (qd1.out _ _ hA.out).mono ?_
            rintro e D5 ⟨rfl, bj⟩
            refine hK.out _ _ (kb4.trans (bj.mono kb4.size)) (fun hHeld => ?_)
            clear hK K
            try simp only [Act.put, List.setIfInBounds_toArray, List.set_cons_zero, List.set_cons_succ]
            have kb5 := kb4.trans (bj.mono kb4.size)
            replace X := hide_ (X.out.later bj)
            replace G := hide_ (G.out.later bj)
            clear bj hA
            refine takeR (i := 9) (v := ?_) rfl (by kernel_rfl) (by kernel_rfl) (by kernel_rfl) (some 22) rfl (Or.inl ⟨by rfl, ?_⟩) (fun _ _ _ h => h) (by assumption) ?_
            rotate_left
            · intro w hSw; (try dsimp only at hSw); go_simp; (try with_reducible rfl)
            simp only [Act.put, List.setIfInBounds_toArray, List.set_cons_zero, List.set_cons_succ]
            refine takeR (i := 10) (v := ?_) rfl (by kernel_rfl) (by kernel_rfl) (by kernel_rfl) (some 32) rfl (Or.inl ⟨by rfl, ?_⟩) (fun _ _ _ h => h) (by assumption) ?_
            rotate_left
            · intro w hSw; (try dsimp only at hSw); go_simp; (try with_reducible rfl)
            simp only [Act.put, List.setIfInBounds_toArray, List.set_cons_zero, List.set_cons_succ]
            refine takeR (i := 11) (v := ?_) rfl (by kernel_rfl) (by kernel_rfl) (by kernel_rfl) (some 33) rfl (Or.inl ⟨by rfl, ?_⟩) (fun _ _ _ h => h) (by assumption) ?_
            rotate_left
            · intro w hSw; (try dsimp only at hSw); go_simp; (try with_reducible rfl)
            simp only [Act.put, List.setIfInBounds_toArray, List.set_cons_zero, List.set_cons_succ]
            refine takeR (i := 12) (v := ?_) rfl (by kernel_rfl) (by kernel_rfl) (by kernel_rfl) (some 34) rfl (Or.inl ⟨by rfl, ?_⟩) (fun _ _ _ h => h) (by assumption) ?_
            rotate_left
            · intro w hSw; (try dsimp only at hSw); go_simp; (try with_reducible rfl)
            simp only [Act.put, List.setIfInBounds_toArray, List.set_cons_zero, List.set_cons_succ]
            refine wpAnyH_ready (rs := [15]) (by kernel_rfl) (by simp) ?_
            refine AllReadyH.cons rfl (fun K hK => ?_) (AllReadyH.nil)
            obtain ⟨z0, z1, z2, z3, z4, z5, z6, z7, z8, z9, z10, z11, z12, z13, z14, z15, z16, z17, z18, z19, z20, z21⟩ := X.out.eleven
            go_simp
            refine hK.out _ _ (below_set11 kb5 lX _ _ _ _ _ _ _ _ _ _ _) (fun hHeld => ?_)
            clear hK K
            try simp only [Act.put, List.setIfInBounds_toArray, List.set_cons_zero, List.set_cons_succ]
            clear z0 z1 z2 z3 z4 z5 z6 z7 z8 z9 z10 z11 z12 z13 z14 z15 z16 z17 z18 z19 z20 z21
            replace G := hide_ (G.out.far11 (h := g7) (Ne.symm nXG) (.int .i64 kA) (.int .i64 pA) (.int .i64 xA) (.int .i64 qA) (.int .i64 yA) (.int .i64 fA) (.bool mA) (.int .u64 (aA : Int)) (.int .u64 (bA : Int)) (.int .u64 (cA : Int)) (.int .u64 (dA : Int)))
            replace X := hide_ (X.out.set11 (.int .i64 kA) (.int .i64 pA) (.int .i64 xA) (.int .i64 qA) (.int .i64 yA) (.int .i64 fA) (.bool mA) (.int .u64 (aA : Int)) (.int .u64 (bA : Int)) (.int .u64 (cA : Int)) (.int .u64 (dA : Int)))
            have kb6 := below_set11 (g := g7) kb5 lX (.int .i64 kA) (.int .i64 pA) (.int .i64 xA) (.int .i64 qA) (.int .i64 yA) (.int .i64 fA) (.bool mA) (.int .u64 (aA : Int)) (.int .u64 (bA : Int)) (.int .u64 (cA : Int)) (.int .u64 (dA : Int))
            generalize (((((((((((D5.setCell ⟨g7, 0, none⟩ (.int .i64 kA)).setCell ⟨g7, 1, none⟩ (.int .i64 pA)).setCell ⟨g7, 2, none⟩ (.int .i64 xA)).setCell ⟨g7, 3, none⟩ (.int .i64 qA)).setCell ⟨g7, 4, none⟩ (.int .i64 yA)).setCell ⟨g7, 5, none⟩ (.int .i64 fA)).setCell ⟨g7, 6, none⟩ (.bool mA)).setCell ⟨g7, 7, none⟩ (.int .u64 (aA : Int))).setCell ⟨g7, 8, none⟩ (.int .u64 (bA : Int))).setCell ⟨g7, 9, none⟩ (.int .u64 (cA : Int))).setCell ⟨g7, 10, none⟩ (.int .u64 (dA : Int))) = D6 at *
            refine takeR (i := 16) (v := ?_) rfl (by kernel_rfl) (by kernel_rfl) (by kernel_rfl) (some 8) rfl (Or.inl ⟨by rfl, ?_⟩) (fun _ _ _ h => h) (by assumption) ?_
            rotate_left
            · intro w hSw; (try dsimp only at hSw); go_simp; (try with_reducible rfl)
            simp only [Act.put, List.setIfInBounds_toArray, List.set_cons_zero, List.set_cons_succ]
            refine wpAnyH_ready (rs := [17]) (by kernel_rfl) (by simp) ?_
            refine AllReadyH.cons rfl (fun K hK => ?_) (AllReadyH.nil)
            obtain ⟨z0, z1, z2, z3, z4, z5⟩ := G.out.three
            go_simp
            refine hK.out _ _ (below_set3 kb6 lG _ _ _) (fun hHeld => ?_)
            clear hK K
            try simp only [Act.put, List.setIfInBounds_toArray, List.set_cons_zero, List.set_cons_succ]
            clear z0 z1 z2 z3 z4 z5
            replace X := hide_ (X.out.far3 (h := g9) nXG (.bool false) (.int .i64 0) (.int .i64 0))
            replace G := hide_ (G.out.set3 (.bool false) (.int .i64 0) (.int .i64 0))
            have kb7 := below_set3 (g := g9) kb6 lG (.bool false) (.int .i64 0) (.int .i64 0)
            generalize (((D6.setCell ⟨g9, 0, none⟩ (.bool false)).setCell ⟨g9, 1, none⟩ (.int .i64 0)).setCell ⟨g9, 2, none⟩ (.int .i64 0)) = D7 at *
            refine wpAnyH_done (by kernel_rfl) ?_ _
            go_wp2_with fail
            go_meet
            exact ⟨g7, g9, rfl, rfl, rfl, X.out, G.out, kb7⟩
      · go_simp
        refine hK.out _ _ (kb1.trans ((below1 D1 (.cells #[.int .i64 0, .int .i64 0, .int .i64 0, .int .i64 0, .int .i64 0, .int .i64 0, .bool false, .int .u64 0, .int .u64 0, .int .u64 0, .int .u64 0] 28)).mono kb1.size)) (fun hHeld => ?_)
        clear hK K
        try simp only [Act.put, List.setIfInBounds_toArray, List.set_cons_zero, List.set_cons_succ]
        have bj := below1 D1 (.cells #[.int .i64 0, .int .i64 0, .int .i64 0, .int .i64 0, .int .i64 0, .int .i64 0, .bool false, .int .u64 0, .int .u64 0, .int .u64 0, .int .u64 0] 28)
        have kb2 := kb1.trans (bj.mono kb1.size)
        have nX : Hid (∀ k, rc.ownBlock = some k → k ≠ D1.heap.size) := hide_ (fun k e => Nat.ne_of_lt (own.out.lt k e).2)
        replace own := hide_ (own.out.alloc (.cells #[.int .i64 0, .int .i64 0, .int .i64 0, .int .i64 0, .int .i64 0, .int .i64 0, .bool false, .int .u64 0, .int .u64 0, .int .u64 0, .int .u64 0] 28))
        replace lC := Nat.le_trans lC bj.size
        have X := hide_ (AB.at0 D1 28 [.int .i64 0, .int .i64 0, .int .i64 0, .int .i64 0, .int .i64 0, .int .i64 0, .bool false, .int .u64 0, .int .u64 0, .int .u64 0, .int .u64 0])
        have lX : w1.heap.size ≤ D1.heap.size := kb1.size
        clear bj
        generalize D1.alloc (.cells #[.int .i64 0, .int .i64 0, .int .i64 0, .int .i64 0, .int .i64 0, .int .i64 0, .bool false, .int .u64 0, .int .u64 0, .int .u64 0, .int .u64 0] 28) = D2 at *
        generalize D1.heap.size = g7 at *
        refine wpAnyH_ready (rs := [7, 14]) (by kernel_rfl) (by simp) ?_
        refine AllReadyH.cons rfl (fun K hK => ?_) (AllReadyH.cons rfl (fun K hK => ?_) (AllReadyH.nil))
        · refine step_append_ownB rfl (.tmp 24) (.tmp 29) 29 rfl bs 5 i0 Try.underlying29 HI.out.1 HI.out.2.1 HI.out.2.2.1 HI.out.2.2.2 rc L.length (u8s L) (by first | rfl | simp [Act.eval, Act.put]) own.out (.slice ao n8 cap) (l.take n8) (by first | rfl | simp [Act.eval, Act.put]) (S3.out.later kb2) H63.out lC ?_
          intro va D3 own2 hg
          refine hK.out _ _ (kb2.trans (below_grown hg w1.heap.size kb2.size (fun k e => Nat.le_trans lB (own.out.lt k e).1))) (fun hHeld => ?_)
          clear hK K
          try simp only [Act.put, List.setIfInBounds_toArray, List.set_cons_zero, List.set_cons_succ]
          have kb3 := kb2.trans (below_grown hg w1.heap.size kb2.size (fun k e => Nat.le_trans lB (own.out.lt k e).1))
          replace X := hide_ (ab_grown X.out hg nX.out)
          have hA := hide_ (bytes_app own2 IB.out IT.out)
          clear own2 hg own
          clear nX
          refine wpAnyH_ready (rs := [8, 14]) (by kernel_rfl) (by simp) ?_
          refine AllReadyH.cons rfl (fun K hK => ?_) (AllReadyH.cons rfl (fun K hK => ?_) (AllReadyH.nil))
          · go_simp
            refine (qd1.out _ _ hA.out).mono ?_
            rintro e D4 ⟨rfl, bj⟩
            refine hK.out _ _ (kb3.trans (bj.mono kb3.size)) (fun hHeld => ?_)
            clear hK K
            try simp only [Act.put, List.setIfInBounds_toArray, List.set_cons_zero, List.set_cons_succ]
            have kb4 := kb3.trans (bj.mono kb3.size)
            replace X := hide_ (X.out.later bj)
            clear bj hA
            refine takeR (i := 9) (v := ?_) rfl (by kernel_rfl) (by kernel_rfl) (by kernel_rfl) (some 22) rfl (Or.inl ⟨by rfl, ?_⟩) (fun _ _ _ h => h) (by assumption) ?_
            rotate_left
            · intro w hSw; (try dsimp only at hSw); go_simp; (try with_reducible rfl)
            simp only [Act.put, List.setIfInBounds_toArray, List.set_cons_zero, List.set_cons_succ]
            refine takeR (i := 10) (v := ?_) rfl (by kernel_rfl) (by kernel_rfl) (by kernel_rfl) (some 32) rfl (Or.inl ⟨by rfl, ?_⟩) (fun _ _ _ h => h) (by assumption) ?_
            rotate_left
            · intro w hSw; (try dsimp only at hSw); go_simp; (try with_reducible rfl)
            simp only [Act.put, List.setIfInBounds_toArray, List.set_cons_zero, List.set_cons_succ]
            refine takeR (i := 11) (v := ?_) rfl (by kernel_rfl) (by kernel_rfl) (by kernel_rfl) (some 33) rfl (Or.inl ⟨by rfl, ?_⟩) (fun _ _ _ h => h) (by assumption) ?_
            rotate_left
            · intro w hSw; (try dsimp only at hSw); go_simp; (try with_reducible rfl)
            simp only [Act.put, List.setIfInBounds_toArray, List.set_cons_zero, List.set_cons_succ]
            refine takeR (i := 12) (v := ?_) rfl (by kernel_rfl) (by kernel_rfl) (by kernel_rfl) (some 34) rfl (Or.inl ⟨by rfl, ?_⟩) (fun _ _ _ h => h) (by assumption) ?_
            rotate_left
            · intro w hSw; (try dsimp only at hSw); go_simp; (try with_reducible rfl)
            simp only [Act.put, List.setIfInBounds_toArray, List.set_cons_zero, List.set_cons_succ]
            refine wpAnyH_ready (rs := [14]) (by kernel_rfl) (by simp) ?_
            refine AllReadyH.cons rfl (fun K hK => ?_) (AllReadyH.nil)
            go_simp
            refine hK.out _ _ (kb4.trans ((below1 D4 (.cells #[.bool false, .int .i64 0, .int .i64 0] 40)).mono kb4.size)) (fun hHeld => ?_)
            clear hK K
            try simp only [Act.put, List.setIfInBounds_toArray, List.set_cons_zero, List.set_cons_succ]
            have ho := X.out.lt
            have bj := below1 D4 (.cells #[.bool false, .int .i64 0, .int .i64 0] 40)
            have kb5 := kb4.trans (bj.mono kb4.size)
            replace X := hide_ (X.out.later bj)
            have G := hide_ (AB.at0 D4 40 [.bool false, .int .i64 0, .int .i64 0])
            have lG : w1.heap.size ≤ D4.heap.size := kb4.size
            have nXG : g7 ≠ D4.heap.size := by omega
            clear ho
            clear bj
            generalize D4.alloc (.cells #[.bool false, .int .i64 0, .int .i64 0] 40) = D5 at *
            generalize D4.heap.size = g9 at *
            refine wpAnyH_ready (rs := [15]) (by kernel_rfl) (by simp) ?_
            refine AllReadyH.cons rfl (fun K hK => ?_) (AllReadyH.nil)
            obtain ⟨z0, z1, z2, z3, z4, z5, z6, z7, z8, z9, z10, z11, z12, z13, z14, z15, z16, z17, z18, z19, z20, z21⟩ := X.out.eleven
            go_simp
            refine hK.out _ _ (below_set11 kb5 lX _ _ _ _ _ _ _ _ _ _ _) (fun hHeld => ?_)
            clear hK K
            try simp only [Act.put, List.setIfInBounds_toArray, List.set_cons_zero, List.set_cons_succ]
            clear z0 z1 z2 z3 z4 z5 z6 z7 z8 z9 z10 z11 z12 z13 z14 z15 z16 z17 z18 z19 z20 z21
            replace G := hide_ (G.out.far11 (h := g7) (Ne.symm nXG) (.int .i64 kA) (.int .i64 pA) (.int .i64 xA) (.int .i64 qA) (.int .i64 yA) (.int .i64 fA) (.bool mA) (.int .u64 (aA : Int)) (.int .u64 (bA : Int)) (.int .u64 (cA : Int)) (.int .u64 (dA : Int)))
            replace X := hide_ (X.out.set11 (.int .i64 kA) (.int .i64 pA) (.int .i64 xA) (.int .i64 qA) (.int .i64 yA) (.int .i64 fA) (.bool mA) (.int .u64 (aA : Int)) (.int .u64 (bA : Int)) (.int .u64 (cA : Int)) (.int .u64 (dA : Int)))
            have kb6 := below_set11 (g := g7) kb5 lX (.int .i64 kA) (.int .i64 pA) (.int .i64 xA) (.int .i64 qA) (.int .i64 yA) (.int .i64 fA) (.bool mA) (.int .u64 (aA : Int)) (.int .u64 (bA : Int)) (.int .u64 (cA : Int)) (.int .u64 (dA : Int))
            generalize (((((((((((D5.setCell ⟨g7, 0, none⟩ (.int .i64 kA)).setCell ⟨g7, 1, none⟩ (.int .i64 pA)).setCell ⟨g7, 2, none⟩ (.int .i64 xA)).setCell ⟨g7, 3, none⟩ (.int .i64 qA)).setCell ⟨g7, 4, none⟩ (.int .i64 yA)).setCell ⟨g7, 5, none⟩ (.int .i64 fA)).setCell ⟨g7, 6, none⟩ (.bool mA)).setCell ⟨g7, 7, none⟩ (.int .u64 (aA : Int))).setCell ⟨g7, 8, none⟩ (.int .u64 (bA : Int))).setCell ⟨g7, 9, none⟩ (.int .u64 (cA : Int))).setCell ⟨g7, 10, none⟩ (.int .u64 (dA : Int))) = D6 at *
            refine takeR (i := 16) (v := ?_) rfl (by kernel_rfl) (by kernel_rfl) (by kernel_rfl) (some 8) rfl (Or.inl ⟨by rfl, ?_⟩) (fun _ _ _ h => h) (by assumption) ?_
            rotate_left
            · intro w hSw; (try dsimp only at hSw); go_simp; (try with_reducible rfl)
            simp only [Act.put, List.setIfInBounds_toArray, List.set_cons_zero, List.set_cons_succ]
            refine wpAnyH_ready (rs := [17]) (by kernel_rfl) (by simp) ?_
            refine AllReadyH.cons rfl (fun K hK => ?_) (AllReadyH.nil)
            obtain ⟨z0, z1, z2, z3, z4, z5⟩ := G.out.three
            go_simp
            refine hK.out _ _ (below_set3 kb6 lG _ _ _) (fun hHeld => ?_)
            clear hK K
            try simp only [Act.put, List.setIfInBounds_toArray, List.set_cons_zero, List.set_cons_succ]
            clear z0 z1 z2 z3 z4 z5
            replace X := hide_ (X.out.far3 (h := g9) nXG (.bool false) (.int .i64 0) (.int .i64 0))
            replace G := hide_ (G.out.set3 (.bool false) (.int .i64 0) (.int .i64 0))
            have kb7 := below_set3 (g := g9) kb6 lG (.bool false) (.int .i64 0) (.int .i64 0)
            generalize (((D6.setCell ⟨g9, 0, none⟩ (.bool false)).setCell ⟨g9, 1, none⟩ (.int .i64 0)).setCell ⟨g9, 2, none⟩ (.int .i64 0)) = D7 at *
            refine wpAnyH_done (by kernel_rfl) ?_ _
            go_wp2_with fail
            go_meet
            exact ⟨g7, g9, rfl, rfl, rfl, X.out, G.out, kb7⟩
          · go_simp
            refine hK.out _ _ (kb3.trans ((below1 D3 (.cells #[.bool false, .int .i64 0, .int .i64 0] 40)).mono kb3.size)) (fun hHeld => ?_)
            clear hK K
            try simp only [Act.put, List.setIfInBounds_toArray, List.set_cons_zero, List.set_cons_succ]
            have ho := X.out.lt
            have bj := below1 D3 (.cells #[.bool false, .int .i64 0, .int .i64 0] 40)
            have kb4 := kb3.trans (bj.mono kb3.size)
            replace X := hide_ (X.out.later bj)
            replace hA := hide_ (hA.out.later bj)
            have G := hide_ (AB.at0 D3 40 [.bool false, .int .i64 0, .int .i64 0])
            have lG : w1.heap.size ≤ D3.heap.size := kb3.size
            have nXG : g7 ≠ D3.heap.size := by omega
            clear ho
            clear bj
            generalize D3.alloc (.cells #[.bool false, .int .i64 0, .int .i64 0] 40) = D4 at *
            generalize D3.heap.size = g9 at *
            refine wpAnyH_ready (rs := [8]) (by kernel_rfl) (by simp) ?_
            refine AllReadyH.cons rfl (fun K hK => ?_) (AllReadyH.nil)
            go_simp
            refine (qd1.out _ _ hA.out).mono ?_
            rintro e D5 ⟨rfl, bj⟩
            refine hK.out _ _ (kb4.trans (bj.mono kb4.size)) (fun hHeld => ?_)
            clear hK K
            try simp only [Act.put, List.setIfInBounds_toArray, List.set_cons_zero, List.set_cons_succ]
            have kb5 := kb4.trans (bj.mono kb4.size)
            replace X := hide_ (X.out.later bj)
            replace G := hide_ (G.out.later bj)
            clear bj hA
            refine takeR (i := 9) (v := ?_) rfl (by kernel_rfl) (by kernel_rfl) (by kernel_rfl) (some 22) rfl (Or.inl ⟨by rfl, ?_⟩) (fun _ _ _ h => h) (by assumption) ?_
            rotate_left
            · intro w hSw; (try dsimp only at hSw); go_simp; (try with_reducible rfl)
            simp only [Act.put, List.setIfInBounds_toArray, List.set_cons_zero, List.set_cons_succ]
            refine takeR (i := 10) (v := ?_) rfl (by kernel_rfl) (by kernel_rfl) (by kernel_rfl) (some 32) rfl (Or.inl ⟨by rfl, ?_⟩) (fun _ _ _ h => h) (by assumption) ?_
            rotate_left
            · intro w hSw; (try dsimp only at hSw); go_simp; (try with_reducible rfl)
            simp only [Act.put, List.setIfInBounds_toArray, List.set_cons_zero, List.set_cons_succ]
            refine takeR (i := 11) (v := ?_) rfl (by kernel_rfl) (by kernel_rfl) (by kernel_rfl) (some 33) rfl (Or.inl ⟨by rfl, ?_⟩) (fun _ _ _ h => h) (by assumption) ?_
            rotate_left
            · intro w hSw; (try dsimp only at hSw); go_simp; (try with_reducible rfl)
            simp only [Act.put, List.setIfInBounds_toArray, List.set_cons_zero, List.set_cons_succ]
            refine takeR (i := 12) (v := ?_) rfl (by kernel_rfl) (by kernel_rfl) (by kernel_rfl) (some 34) rfl (Or.inl ⟨by rfl, ?_⟩) (fun _ _ _ h => h) (by assumption) ?_
            rotate_left
            · intro w hSw; (try dsimp only at hSw); go_simp; (try with_reducible rfl)
            simp only [Act.put, List.setIfInBounds_toArray, List.set_cons_zero, List.set_cons_succ]
            refine wpAnyH_ready (rs := [15]) (by kernel_rfl) (by simp) ?_
            refine AllReadyH.cons rfl (fun K hK => ?_) (AllReadyH.nil)
            obtain ⟨z0, z1, z2, z3, z4, z5, z6, z7, z8, z9, z10, z11, z12, z13, z14, z15, z16, z17, z18, z19, z20, z21⟩ := X.out.eleven
            go_simp
            refine hK.out _ _ (below_set11 kb5 lX _ _ _ _ _ _ _ _ _ _ _) (fun hHeld => ?_)
            clear hK K
            try simp only [Act.put, List.setIfInBounds_toArray, List.set_cons_zero, List.set_cons_succ]
            clear z0 z1 z2 z3 z4 z5 z6 z7 z8 z9 z10 z11 z12 z13 z14 z15 z16 z17 z18 z19 z20 z21
            replace G := hide_ (G.out.far11 (h := g7) (Ne.symm nXG) (.int .i64 kA) (.int .i64 pA) (.int .i64 xA) (.int .i64 qA) (.int .i64 yA) (.int .i64 fA) (.bool mA) (.int .u64 (aA : Int)) (.int .u64 (bA : Int)) (.int .u64 (cA : Int)) (.int .u64 (dA : Int)))
            replace X := hide_ (X.out.set11 (.int .i64 kA) (.int .i64 pA) (.int .i64 xA) (.int .i64 qA) (.int .i64 yA) (.int .i64 fA) (.bool mA) (.int .u64 (aA : Int)) (.int .u64 (bA : Int)) (.int .u64 (cA : Int)) (.int .u64 (dA : Int)))
            have kb6 := below_set11 (g := g7) kb5 lX (.int .i64 kA) (.int .i64 pA) (.int .i64 xA) (.int .i64 qA) (.int .i64 yA) (.int .i64 fA) (.bool mA) (.int .u64 (aA : Int)) (.int .u64 (bA : Int)) (.int .u64 (cA : Int)) (.int .u64 (dA : Int))
            generalize (((((((((((D5.setCell ⟨g7, 0, none⟩ (.int .i64 kA)).setCell ⟨g7, 1, none⟩ (.int .i64 pA)).setCell ⟨g7, 2, none⟩ (.int .i64 xA)).setCell ⟨g7, 3, none⟩ (.int .i64 qA)).setCell ⟨g7, 4, none⟩ (.int .i64 yA)).setCell ⟨g7, 5, none⟩ (.int .i64 fA)).setCell ⟨g7, 6, none⟩ (.bool mA)).setCell ⟨g7, 7, none⟩ (.int .u64 (aA : Int))).setCell ⟨g7, 8, none⟩ (.int .u64 (bA : Int))).setCell ⟨g7, 9, none⟩ (.int .u64 (cA : Int))).setCell ⟨g7, 10, none⟩ (.int .u64 (dA : Int))) = D6 at *
            refine takeR (i := 16) (v := ?_) rfl (by kernel_rfl) (by kernel_rfl) (by kernel_rfl) (some 8) rfl (Or.inl ⟨by rfl, ?_⟩) (fun _ _ _ h => h) (by assumption) ?_
            rotate_left
            · intro w hSw; (try dsimp only at hSw); go_simp; (try with_reducible rfl)
            simp only [Act.put, List.setIfInBounds_toArray, List.set_cons_zero, List.set_cons_succ]
            refine wpAnyH_ready (rs := [17]) (by kernel_rfl) (by simp) ?_
            refine AllReadyH.cons rfl (fun K hK => ?_) (AllReadyH.nil)
            obtain ⟨z0, z1, z2, z3, z4, z5⟩ := G.out.three
            go_simp
            refine hK.out _ _ (below_set3 kb6 lG _ _ _) (fun hHeld => ?_)
            clear hK K
            try simp only [Act.put, List.setIfInBounds_toArray, List.set_cons_zero, List.set_cons_succ]
            clear z0 z1 z2 z3 z4 z5
            replace X := hide_ (X.out.far3 (h := g9) nXG (.bool false) (.int .i64 0) (.int .i64 0))
            replace G := hide_ (G.out.set3 (.bool false) (.int .i64 0) (.int .i64 0))
            have kb7 := below_set3 (g := g9) kb6 lG (.bool false) (.int .i64 0) (.int .i64 0)
            generalize (((D6.setCell ⟨g9, 0, none⟩ (.bool false)).setCell ⟨g9, 1, none⟩ (.int .i64 0)).setCell ⟨g9, 2, none⟩ (.int .i64 0)) = D7 at *
            refine wpAnyH_done (by kernel_rfl) ?_ _
            go_wp2_with fail
            go_meet
            exact ⟨g7, g9, rfl, rfl, rfl, X.out, G.out, kb7⟩
        · go_simp
          refine hK.out _ _ (kb2.trans ((below1 D2 (.cells #[.bool false, .int .i64 0, .int .i64 0] 40)).mono kb2.size)) (fun hHeld => ?_)
          clear hK K
          try simp only [Act.put, List.setIfInBounds_toArray, List.set_cons_zero, List.set_cons_succ]
          have ho := X.out.lt
          have bj := below1 D2 (.cells #[.bool false, .int .i64 0, .int .i64 0] 40)
          have kb3 := kb2.trans (bj.mono kb2.size)
          replace X := hide_ (X.out.later bj)
          have nG : Hid (∀ k, rc.ownBlock = some k → k ≠ D2.heap.size) := hide_ (fun k e => Nat.ne_of_lt (own.out.lt k e).2)
          replace own := hide_ (own.out.alloc (.cells #[.bool false, .int .i64 0, .int .i64 0] 40))
          replace lC := Nat.le_trans lC bj.size
          have G := hide_ (AB.at0 D2 40 [.bool false, .int .i64 0, .int .i64 0])
          have lG : w1.heap.size ≤ D2.heap.size := kb2.size
          have nXG : g7 ≠ D2.heap.size := by omega
          clear ho
          clear bj
          generalize D2.alloc (.cells #[.bool false, .int .i64 0, .int .i64 0] 40) = D3 at *
          generalize D2.heap.size = g9 at *
          refine wpAnyH_ready (rs := [7]) (by kernel_rfl) (by simp) ?_
          refine AllReadyH.cons rfl (fun K hK => ?_) (AllReadyH.nil)
          refine step_append_ownB rfl (.tmp 24) (.tmp 29) 29 rfl bs 5 i0 Try.underlying29 HI.out.1 HI.out.2.1 HI.out.2.2.1 HI.out.2.2.2 rc L.length (u8s L) (by first | rfl | simp [Act.eval, Act.put]) own.out (.slice ao n8 cap) (l.take n8) (by first | rfl | simp [Act.eval, Act.put]) (S3.out.later kb3) H63.out lC ?_
          intro va D4 own2 hg
          refine hK.out _ _ (kb3.trans (below_grown hg w1.heap.size kb3.size (fun k e => Nat.le_trans lB (own.out.lt k e).1))) (fun hHeld => ?_)
          clear hK K
          try simp only [Act.put, List.setIfInBounds_toArray, List.set_cons_zero, List.set_cons_succ]
          have kb4 := kb3.trans (below_grown hg w1.heap.size kb3.size (fun k e => Nat.le_trans lB (own.out.lt k e).1))
          replace X := hide_ (ab_grown X.out hg nX.out)
          replace G := hide_ (ab_grown G.out hg nG.out)
          have hA := hide_ (bytes_app own2 IB.out IT.out)
          clear own2 hg own
          clear nX
          clear nG
          refine wpAnyH_ready (rs := [8]) (by kernel_rfl) (by simp) ?_
          refine AllReadyH.cons rfl (fun K hK => ?_) (AllReadyH.nil)
          go_simp
          refine (qd1.out _ _ hA.out).mono ?_
          rintro e D5 ⟨rfl, bj⟩
          refine hK.out _ _ (kb4.trans (bj.mono kb4.size)) (fun hHeld => ?_)
          clear hK K
          try simp only [Act.put, List.setIfInBounds_toArray, List.set_cons_zero, List.set_cons_succ]
          have kb5 := kb4.trans (bj.mono kb4.size)
          replace X := hide_ (X.out.later bj)
          replace G := hide_ (G.out.later bj)
          clear bj hA
          refine takeR (i := 9) (v := ?_) rfl (by kernel_rfl) (by kernel_rfl) (by kernel_rfl) (some 22) rfl (Or.inl ⟨by rfl, ?_⟩) (fun _ _ _ h => h) (by assumption) ?_
          rotate_left
          · intro w hSw; (try dsimp only at hSw); go_simp; (try with_reducible rfl)
          simp only [Act.put, List.setIfInBounds_toArray, List.set_cons_zero, List.set_cons_succ]
          refine takeR (i := 10) (v := ?_) rfl (by kernel_rfl) (by kernel_rfl) (by kernel_rfl) (some 32) rfl (Or.inl ⟨by rfl, ?_⟩) (fun _ _ _ h => h) (by assumption) ?_
          rotate_left
          · intro w hSw; (try dsimp only at hSw); go_simp; (try with_reducible rfl)
          simp only [Act.put, List.setIfInBounds_toArray, List.set_cons_zero, List.set_cons_succ]
          refine takeR (i := 11) (v := ?_) rfl (by kernel_rfl) (by kernel_rfl) (by kernel_rfl) (some 33) rfl (Or.inl ⟨by rfl, ?_⟩) (fun _ _ _ h => h) (by assumption) ?_
          rotate_left
          · intro w hSw; (try dsimp only at hSw); go_simp; (try with_reducible rfl)
          simp only [Act.put, List.setIfInBounds_toArray, List.set_cons_zero, List.set_cons_succ]
          refine takeR (i := 12) (v := ?_) rfl (by kernel_rfl) (by kernel_rfl) (by kernel_rfl) (some 34) rfl (Or.inl ⟨by rfl, ?_⟩) (fun _ _ _ h => h) (by assumption) ?_
          rotate_left
          · intro w hSw; (try dsimp only at hSw); go_simp; (try with_reducible rfl)
          simp only [Act.put, List.setIfInBounds_toArray, List.set_cons_zero, List.set_cons_succ]
          refine wpAnyH_ready (rs := [15]) (by kernel_rfl) (by simp) ?_
          refine AllReadyH.cons rfl (fun K hK => ?_) (AllReadyH.nil)
          obtain ⟨z0, z1, z2, z3, z4, z5, z6, z7, z8, z9, z10, z11, z12, z13, z14, z15, z16, z17, z18, z19, z20, z21⟩ := X.out.eleven
          go_simp
          refine hK.out _ _ (below_set11 kb5 lX _ _ _ _ _ _ _ _ _ _ _) (fun hHeld => ?_)
          clear hK K
          try simp only [Act.put, List.setIfInBounds_toArray, List.set_cons_zero, List.set_cons_succ]
          clear z0 z1 z2 z3 z4 z5 z6 z7 z8 z9 z10 z11 z12 z13 z14 z15 z16 z17 z18 z19 z20 z21
          replace G := hide_ (G.out.far11 (h := g7) (Ne.symm nXG) (.int .i64 kA) (.int .i64 pA) (.int .i64 xA) (.int .i64 qA) (.int .i64 yA) (.int .i64 fA) (.bool mA) (.int .u64 (aA : Int)) (.int .u64 (bA : Int)) (.int .u64 (cA : Int)) (.int .u64 (dA : Int)))
          replace X := hide_ (X.out.set11 (.int .i64 kA) (.int .i64 pA) (.int .i64 xA) (.int .i64 qA) (.int .i64 yA) (.int .i64 fA) (.bool mA) (.int .u64 (aA : Int)) (.int .u64 (bA : Int)) (.int .u64 (cA : Int)) (.int .u64 (dA : Int)))
          have kb6 := below_set11 (g := g7) kb5 lX (.int .i64 kA) (.int .i64 pA) (.int .i64 xA) (.int .i64 qA) (.int .i64 yA) (.int .i64 fA) (.bool mA) (.int .u64 (aA : Int)) (.int .u64 (bA : Int)) (.int .u64 (cA : Int)) (.int .u64 (dA : Int))
          generalize (((((((((((D5.setCell ⟨g7, 0, none⟩ (.int .i64 kA)).setCell ⟨g7, 1, none⟩ (.int .i64 pA)).setCell ⟨g7, 2, none⟩ (.int .i64 xA)).setCell ⟨g7, 3, none⟩ (.int .i64 qA)).setCell ⟨g7, 4, none⟩ (.int .i64 yA)).setCell ⟨g7, 5, none⟩ (.int .i64 fA)).setCell ⟨g7, 6, none⟩ (.bool mA)).setCell ⟨g7, 7, none⟩ (.int .u64 (aA : Int))).setCell ⟨g7, 8, none⟩ (.int .u64 (bA : Int))).setCell ⟨g7, 9, none⟩ (.int .u64 (cA : Int))).setCell ⟨g7, 10, none⟩ (.int .u64 (dA : Int))) = D6 at *
          refine takeR (i := 16) (v := ?_) rfl (by kernel_rfl) (by kernel_rfl) (by kernel_rfl) (some 8) rfl (Or.inl ⟨by rfl, ?_⟩) (fun _ _ _ h => h) (by assumption) ?_
          rotate_left
          · intro w hSw; (try dsimp only at hSw); go_simp; (try with_reducible rfl)
          simp only [Act.put, List.setIfInBounds_toArray, List.set_cons_zero, List.set_cons_succ]
          refine wpAnyH_ready (rs := [17]) (by kernel_rfl) (by simp) ?_
          refine AllReadyH.cons rfl (fun K hK => ?_) (AllReadyH.nil)
          obtain ⟨z0, z1, z2, z3, z4, z5⟩ := G.out.three
          go_simp
          refine hK.out _ _ (below_set3 kb6 lG _ _ _) (fun hHeld => ?_)
          clear hK K
          try simp only [Act.put, List.setIfInBounds_toArray, List.set_cons_zero, List.set_cons_succ]
          clear z0 z1 z2 z3 z4 z5
          replace X := hide_ (X.out.far3 (h := g9) nXG (.bool false) (.int .i64 0) (.int .i64 0))
          replace G := hide_ (G.out.set3 (.bool false) (.int .i64 0) (.int .i64 0))
          have kb7 := below_set3 (g := g9) kb6 lG (.bool false) (.int .i64 0) (.int .i64 0)
          generalize (((D6.setCell ⟨g9, 0, none⟩ (.bool false)).setCell ⟨g9, 1, none⟩ (.int .i64 0)).setCell ⟨g9, 2, none⟩ (.int .i64 0)) = D7 at *
          refine wpAnyH_done (by kernel_rfl) ?_ _
          go_wp2_with fail
          go_meet
          exact ⟨g7, g9, rfl, rfl, rfl, X.out, G.out, kb7⟩
      · go_simp
        refine hK.out _ _ (kb1.trans ((below1 D1 (.cells #[.bool false, .int .i64 0, .int .i64 0] 40)).mono kb1.size)) (fun hHeld => ?_)
        clear hK K
        try simp only [Act.put, List.setIfInBounds_toArray, List.set_cons_zero, List.set_cons_succ]
        have bj := below1 D1 (.cells #[.bool false, .int .i64 0, .int .i64 0] 40)
        have kb2 := kb1.trans (bj.mono kb1.size)
        have nG : Hid (∀ k, rc.ownBlock = some k → k ≠ D1.heap.size) := hide_ (fun k e => Nat.ne_of_lt (own.out.lt k e).2)
        replace own := hide_ (own.out.alloc (.cells #[.bool false, .int .i64 0, .int .i64 0] 40))
        replace lC := Nat.le_trans lC bj.size
        have G := hide_ (AB.at0 D1 40 [.bool false, .int .i64 0, .int .i64 0])
        have lG : w1.heap.size ≤ D1.heap.size := kb1.size
        clear bj
        generalize D1.alloc (.cells #[.bool false, .int .i64 0, .int .i64 0] 40) = D2 at *
        generalize D1.heap.size = g9 at *
        refine wpAnyH_ready (rs := [7, 13]) (by kernel_rfl) (by simp) ?_
        refine AllReadyH.cons rfl (fun K hK => ?_) (AllReadyH.cons rfl (fun K hK => ?_) (AllReadyH.nil))
        · refine step_append_ownB rfl (.tmp 24) (.tmp 29) 29 rfl bs 5 i0 Try.underlying29 HI.out.1 HI.out.2.1 HI.out.2.2.1 HI.out.2.2.2 rc L.length (u8s L) (by first | rfl | simp [Act.eval, Act.put]) own.out (.slice ao n8 cap) (l.take n8) (by first | rfl | simp [Act.eval, Act.put]) (S3.out.later kb2) H63.out lC ?_
          intro va D3 own2 hg
          refine hK.out _ _ (kb2.trans (below_grown hg w1.heap.size kb2.size (fun k e => Nat.le_trans lB (own.out.lt k e).1))) (fun hHeld => ?_)
          clear hK K
          try simp only [Act.put, List.setIfInBounds_toArray, List.set_cons_zero, List.set_cons_succ]
          have kb3 := kb2.trans (below_grown hg w1.heap.size kb2.size (fun k e => Nat.le_trans lB (own.out.lt k e).1))
          replace G := hide_ (ab_grown G.out hg nG.out)
          have hA := hide_ (bytes_app own2 IB.out IT.out)
          clear own2 hg own
          clear nG
          refine wpAnyH_ready (rs := [8, 13]) (by kernel_rfl) (by simp) ?_
          refine AllReadyH.cons rfl (fun K hK => ?_) (AllReadyH.cons rfl (fun K hK => ?_) (AllReadyH.nil))
          · go_simp
            refine (qd1.out _ _ hA.out).mono ?_
            rintro e D4 ⟨rfl, bj⟩
            refine hK.out _ _ (kb3.trans (bj.mono kb3.size)) (fun hHeld => ?_)
            clear hK K
            try simp only [Act.put, List.setIfInBounds_toArray, List.set_cons_zero, List.set_cons_succ]
            have kb4 := kb3.trans (bj.mono kb3.size)
            replace G := hide_ (G.out.later bj)
            clear bj hA
            refine takeR (i := 9) (v := ?_) rfl (by kernel_rfl) (by kernel_rfl) (by kernel_rfl) (some 22) rfl (Or.inl ⟨by rfl, ?_⟩) (fun _ _ _ h => h) (by assumption) ?_
            rotate_left
            · intro w hSw; (try dsimp only at hSw); go_simp; (try with_reducible rfl)
            simp only [Act.put, List.setIfInBounds_toArray, List.set_cons_zero, List.set_cons_succ]
            refine takeR (i := 10) (v := ?_) rfl (by kernel_rfl) (by kernel_rfl) (by kernel_rfl) (some 32) rfl (Or.inl ⟨by rfl, ?_⟩) (fun _ _ _ h => h) (by assumption) ?_
            rotate_left
            · intro w hSw; (try dsimp only at hSw); go_simp; (try with_reducible rfl)
            simp only [Act.put, List.setIfInBounds_toArray, List.set_cons_zero, List.set_cons_succ]
            refine takeR (i := 11) (v := ?_) rfl (by kernel_rfl) (by kernel_rfl) (by kernel_rfl) (some 33) rfl (Or.inl ⟨by rfl, ?_⟩) (fun _ _ _ h => h) (by assumption) ?_
            rotate_left
            · intro w hSw; (try dsimp only at hSw); go_simp; (try with_reducible rfl)
            simp only [Act.put, List.setIfInBounds_toArray, List.set_cons_zero, List.set_cons_succ]
            refine takeR (i := 12) (v := ?_) rfl (by kernel_rfl) (by kernel_rfl) (by kernel_rfl) (some 34) rfl (Or.inl ⟨by rfl, ?_⟩) (fun _ _ _ h => h) (by assumption) ?_
            rotate_left
            · intro w hSw; (try dsimp only at hSw); go_simp; (try with_reducible rfl)
            simp only [Act.put, List.setIfInBounds_toArray, List.set_cons_zero, List.set_cons_succ]
            refine wpAnyH_ready (rs := [13]) (by kernel_rfl) (by simp) ?_
            refine AllReadyH.cons rfl (fun K hK => ?_) (AllReadyH.nil)
            go_simp
            refine hK.out _ _ (kb4.trans ((below1 D4 (.cells #[.int .i64 0, .int .i64 0, .int .i64 0, .int .i64 0, .int .i64 0, .int .i64 0, .bool false, .int .u64 0, .int .u64 0, .int .u64 0, .int .u64 0] 28)).mono kb4.size)) (fun hHeld => ?_)
            clear hK K
            try simp only [Act.put, List.setIfInBounds_toArray, List.set_cons_zero, List.set_cons_succ]
            have ho := G.out.lt
            have bj := below1 D4 (.cells #[.int .i64 0, .int .i64 0, .int .i64 0, .int .i64 0, .int .i64 0, .int .i64 0, .bool false, .int .u64 0, .int .u64 0, .int .u64 0, .int .u64 0] 28)
            have kb5 := kb4.trans (bj.mono kb4.size)
            replace G := hide_ (G.out.later bj)
            have X := hide_ (AB.at0 D4 28 [.int .i64 0, .int .i64 0, .int .i64 0, .int .i64 0, .int .i64 0, .int .i64 0, .bool false, .int .u64 0, .int .u64 0, .int .u64 0, .int .u64 0])
            have lX : w1.heap.size ≤ D4.heap.size := kb4.size
            have nXG : D4.heap.size ≠ g9 := by omega
            clear ho
            clear bj
            generalize D4.alloc (.cells #[.int .i64 0, .int .i64 0, .int .i64 0, .int .i64 0, .int .i64 0, .int .i64 0, .bool false, .int .u64 0, .int .u64 0, .int .u64 0, .int .u64 0] 28) = D5 at *
            generalize D4.heap.size = g7 at *
            refine wpAnyH_ready (rs := [15]) (by kernel_rfl) (by simp) ?_
            refine AllReadyH.cons rfl (fun K hK => ?_) (AllReadyH.nil)
            obtain ⟨z0, z1, z2, z3, z4, z5, z6, z7, z8, z9, z10, z11, z12, z13, z14, z15, z16, z17, z18, z19, z20, z21⟩ := X.out.eleven
            go_simp
            refine hK.out _ _ (below_set11 kb5 lX _ _ _ _ _ _ _ _ _ _ _) (fun hHeld => ?_)
            clear hK K
            try simp only [Act.put, List.setIfInBounds_toArray, List.set_cons_zero, List.set_cons_succ]
            clear z0 z1 z2 z3 z4 z5 z6 z7 z8 z9 z10 z11 z12 z13 z14 z15 z16 z17 z18 z19 z20 z21
            replace G := hide_ (G.out.far11 (h := g7) (Ne.symm nXG) (.int .i64 kA) (.int .i64 pA) (.int .i64 xA) (.int .i64 qA) (.int .i64 yA) (.int .i64 fA) (.bool mA) (.int .u64 (aA : Int)) (.int .u64 (bA : Int)) (.int .u64 (cA : Int)) (.int .u64 (dA : Int)))
            replace X := hide_ (X.out.set11 (.int .i64 kA) (.int .i64 pA) (.int .i64 xA) (.int .i64 qA) (.int .i64 yA) (.int .i64 fA) (.bool mA) (.int .u64 (aA : Int)) (.int .u64 (bA : Int)) (.int .u64 (cA : Int)) (.int .u64 (dA : Int)))
            have kb6 := below_set11 (g := g7) kb5 lX (.int .i64 kA) (.int .i64 pA) (.int .i64 xA) (.int .i64 qA) (.int .i64 yA) (.int .i64 fA) (.bool mA) (.int .u64 (aA : Int)) (.int .u64 (bA : Int)) (.int .u64 (cA : Int)) (.int .u64 (dA : Int))
            generalize (((((((((((D5.setCell ⟨g7, 0, none⟩ (.int .i64 kA)).setCell ⟨g7, 1, none⟩ (.int .i64 pA)).setCell ⟨g7, 2, none⟩ (.int .i64 xA)).setCell ⟨g7, 3, none⟩ (.int .i64 qA)).setCell ⟨g7, 4, none⟩ (.int .i64 yA)).setCell ⟨g7, 5, none⟩ (.int .i64 fA)).setCell ⟨g7, 6, none⟩ (.bool mA)).setCell ⟨g7, 7, none⟩ (.int .u64 (aA : Int))).setCell ⟨g7, 8, none⟩ (.int .u64 (bA : Int))).setCell ⟨g7, 9, none⟩ (.int .u64 (cA : Int))).setCell ⟨g7, 10, none⟩ (.int .u64 (dA : Int))) = D6 at *
            refine takeR (i := 16) (v := ?_) rfl (by kernel_rfl) (by kernel_rfl) (by kernel_rfl) (some 8) rfl (Or.inl ⟨by rfl, ?_⟩) (fun _ _ _ h => h) (by assumption) ?_
            rotate_left
            · intro w hSw; (try dsimp only at hSw); go_simp; (try with_reducible rfl)
            simp only [Act.put, List.setIfInBounds_toArray, List.set_cons_zero, List.set_cons_succ]
            refine wpAnyH_ready (rs := [17]) (by kernel_rfl) (by simp) ?_
            refine AllReadyH.cons rfl (fun K hK => ?_) (AllReadyH.nil)
            obtain ⟨z0, z1, z2, z3, z4, z5⟩ := G.out.three
            go_simp
            refine hK.out _ _ (below_set3 kb6 lG _ _ _) (fun hHeld => ?_)
            clear hK K
            try simp only [Act.put, List.setIfInBounds_toArray, List.set_cons_zero, List.set_cons_succ]
            clear z0 z1 z2 z3 z4 z5
            replace X := hide_ (X.out.far3 (h := g9) nXG (.bool false) (.int .i64 0) (.int .i64 0))
            replace G := hide_ (G.out.set3 (.bool false) (.int .i64 0) (.int .i64 0))
            have kb7 := below_set3 (g := g9) kb6 lG (.bool false) (.int .i64 0) (.int .i64 0)
            generalize (((D6.setCell ⟨g9, 0, none⟩ (.bool false)).setCell ⟨g9, 1, none⟩ (.int .i64 0)).setCell ⟨g9, 2, none⟩ (.int .i64 0)) = D7 at *
            refine wpAnyH_done (by kernel_rfl) ?_ _
            go_wp2_with fail
            go_meet
            exact ⟨g7, g9, rfl, rfl, rfl, X.out, G.out, kb7⟩
          · go_simp
            refine hK.out _ _ (kb3.trans ((below1 D3 (.cells #[.int .i64 0, .int .i64 0, .int .i64 0, .int .i64 0, .int .i64 0, .int .i64 0, .bool false, .int .u64 0, .int .u64 0, .int .u64 0, .int .u64 0] 28)).mono kb3.size)) (fun hHeld => ?_)
            clear hK K
            try simp only [Act.put, List.setIfInBounds_toArray, List.set_cons_zero, List.set_cons_succ]
            have ho := G.out.lt
            have bj := below1 D3 (.cells #[.int .i64 0, .int .i64 0, .int .i64 0, .int .i64 0, .int .i64 0, .int .i64 0, .bool false, .int .u64 0, .int .u64 0, .int .u64 0, .int .u64 0] 28)
            have kb4 := kb3.trans (bj.mono kb3.size)
            replace G := hide_ (G.out.later bj)
            replace hA := hide_ (hA.out.later bj)
            have X := hide_ (AB.at0 D3 28 [.int .i64 0, .int .i64 0, .int .i64 0, .int .i64 0, .int .i64 0, .int .i64 0, .bool false, .int .u64 0, .int .u64 0, .int .u64 0, .int .u64 0])
            have lX : w1.heap.size ≤ D3.heap.size := kb3.size
            have nXG : D3.heap.size ≠ g9 := by omega
            clear ho
            clear bj
            generalize D3.alloc (.cells #[.int .i64 0, .int .i64 0, .int .i64 0, .int .i64 0, .int .i64 0, .int .i64 0, .bool false, .int .u64 0, .int .u64 0, .int .u64 0, .int .u64 0] 28) = D4 at *
            generalize D3.heap.size = g7 at *
            refine wpAnyH_ready (rs := [8]) (by kernel_rfl) (by simp) ?_
            refine AllReadyH.cons rfl (fun K hK => ?_) (AllReadyH.nil)
            go_simp
            refine (qd1.out _ _ hA.out).mono ?_
            rintro e D5 ⟨rfl, bj⟩
            refine hK.out _ _ (kb4.trans (bj.mono kb4.size)) (fun hHeld => ?_)
            clear hK K
            try simp only [Act.put, List.setIfInBounds_toArray, List.set_cons_zero, List.set_cons_succ]
            have kb5 := kb4.trans (bj.mono kb4.size)
            replace X := hide_ (X.out.later bj)
            replace G := hide_ (G.out.later bj)
            clear bj hA
            refine takeR (i := 9) (v := ?_) rfl (by kernel_rfl) (by kernel_rfl) (by kernel_rfl) (some 22) rfl (Or.inl ⟨by rfl, ?_⟩) (fun _ _ _ h => h) (by assumption) ?_
            rotate_left
            · intro w hSw; (try dsimp only at hSw); go_simp; (try with_reducible rfl)
            simp only [Act.put, List.setIfInBounds_toArray, List.set_cons_zero, List.set_cons_succ]
            refine takeR (i := 10) (v := ?_) rfl (by kernel_rfl) (by kernel_rfl) (by kernel_rfl) (some 32) rfl (Or.inl ⟨by rfl, ?_⟩) (fun _ _ _ h => h) (by assumption) ?_
            rotate_left
            · intro w hSw; (try dsimp only at hSw); go_simp; (try with_reducible rfl)
            simp only [Act.put, List.setIfInBounds_toArray, List.set_cons_zero, List.set_cons_succ]
            refine takeR (i := 11) (v := ?_) rfl (by kernel_rfl) (by kernel_rfl) (by kernel_rfl) (some 33) rfl (Or.inl ⟨by rfl, ?_⟩) (fun _ _ _ h => h) (by assumption) ?_
            rotate_left
            · intro w hSw; (try dsimp only at hSw); go_simp; (try with_reducible rfl)
            simp only [Act.put, List.setIfInBounds_toArray, List.set_cons_zero, List.set_cons_succ]
            refine takeR (i := 12) (v := ?_) rfl (by kernel_rfl) (by kernel_rfl) (by kernel_rfl) (some 34) rfl (Or.inl ⟨by rfl, ?_⟩) (fun _ _ _ h => h) (by assumption) ?_
            rotate_left
            · intro w hSw; (try dsimp only at hSw); go_simp; (try with_reducible rfl)
            simp only [Act.put, List.setIfInBounds_toArray, List.set_cons_zero, List.set_cons_succ]
            refine wpAnyH_ready (rs := [15]) (by kernel_rfl) (by simp) ?_
            refine AllReadyH.cons rfl (fun K hK => ?_) (AllReadyH.nil)
            obtain ⟨z0, z1, z2, z3, z4, z5, z6, z7, z8, z9, z10, z11, z12, z13, z14, z15, z16, z17, z18, z19, z20, z21⟩ := X.out.eleven
            go_simp
            refine hK.out _ _ (below_set11 kb5 lX _ _ _ _ _ _ _ _ _ _ _) (fun hHeld => ?_)
            clear hK K
            try simp only [Act.put, List.setIfInBounds_toArray, List.set_cons_zero, List.set_cons_succ]
            clear z0 z1 z2 z3 z4 z5 z6 z7 z8 z9 z10 z11 z12 z13 z14 z15 z16 z17 z18 z19 z20 z21
            replace G := hide_ (G.out.far11 (h := g7) (Ne.symm nXG) (.int .i64 kA) (.int .i64 pA) (.int .i64 xA) (.int .i64 qA) (.int .i64 yA) (.int .i64 fA) (.bool mA) (.int .u64 (aA : Int)) (.int .u64 (bA : Int)) (.int .u64 (cA : Int)) (.int .u64 (dA : Int)))
            replace X := hide_ (X.out.set11 (.int .i64 kA) (.int .i64 pA) (.int .i64 xA) (.int .i64 qA) (.int .i64 yA) (.int .i64 fA) (.bool mA) (.int .u64 (aA : Int)) (.int .u64 (bA : Int)) (.int .u64 (cA : Int)) (.int .u64 (dA : Int)))
            have kb6 := below_set11 (g := g7) kb5 lX (.int .i64 kA) (.int .i64 pA) (.int .i64 xA) (.int .i64 qA) (.int .i64 yA) (.int .i64 fA) (.bool mA) (.int .u64 (aA : Int)) (.int .u64 (bA : Int)) (.int .u64 (cA : Int)) (.int .u64 (dA : Int))
            generalize (((((((((((D5.setCell ⟨g7, 0, none⟩ (.int .i64 kA)).setCell ⟨g7, 1, none⟩ (.int .i64 pA)).setCell ⟨g7, 2, none⟩ (.int .i64 xA)).setCell ⟨g7, 3, none⟩ (.int .i64 qA)).setCell ⟨g7, 4, none⟩ (.int .i64 yA)).setCell ⟨g7, 5, none⟩ (.int .i64 fA)).setCell ⟨g7, 6, none⟩ (.bool mA)).setCell ⟨g7, 7, none⟩ (.int .u64 (aA : Int))).setCell ⟨g7, 8, none⟩ (.int .u64 (bA : Int))).setCell ⟨g7, 9, none⟩ (.int .u64 (cA : Int))).setCell ⟨g7, 10, none⟩ (.int .u64 (dA : Int))) = D6 at *
            refine takeR (i := 16) (v := ?_) rfl (by kernel_rfl) (by kernel_rfl) (by kernel_rfl) (some 8) rfl (Or.inl ⟨by rfl, ?_⟩) (fun _ _ _ h => h) (by assumption) ?_
            rotate_left
            · intro w hSw; (try dsimp only at hSw); go_simp; (try with_reducible rfl)
            simp only [Act.put, List.setIfInBounds_toArray, List.set_cons_zero, List.set_cons_succ]
            refine wpAnyH_ready (rs := [17]) (by kernel_rfl) (by simp) ?_
            refine AllReadyH.cons rfl (fun K hK => ?_) (AllReadyH.nil)
            obtain ⟨z0, z1, z2, z3, z4, z5⟩ := G.out.three
            go_simp
            refine hK.out _ _ (below_set3 kb6 lG _ _ _) (fun hHeld => ?_)
            clear hK K
            try simp only [Act.put, List.setIfInBounds_toArray, List.set_cons_zero, List.set_cons_succ]
            clear z0 z1 z2 z3 z4 z5
            replace X := hide_ (X.out.far3 (h := g9) nXG (.bool false) (.int .i64 0) (.int .i64 0))
            replace G := hide_ (G.out.set3 (.bool false) (.int .i64 0) (.int .i64 0))
            have kb7 := below_set3 (g := g9) kb6 lG (.bool false) (.int .i64 0) (.int .i64 0)
            generalize (((D6.setCell ⟨g9, 0, none⟩ (.bool false)).setCell ⟨g9, 1, none⟩ (.int .i64 0)).setCell ⟨g9, 2, none⟩ (.int .i64 0)) = D7 at *
            refine wpAnyH_done (by kernel_rfl) ?_ _
            go_wp2_with fail
            go_meet
            exact ⟨g7, g9, rfl, rfl, rfl, X.out, G.out, kb7⟩
        · go_simp
          refine hK.out _ _ (kb2.trans ((below1 D2 (.cells #[.int .i64 0, .int .i64 0, .int .i64 0, .int .i64 0, .int .i64 0, .int .i64 0, .bool false, .int .u64 0, .int .u64 0, .int .u64 0, .int .u64 0] 28)).mono kb2.size)) (fun hHeld => ?_)
          clear hK K
          try simp only [Act.put, List.setIfInBounds_toArray, List.set_cons_zero, List.set_cons_succ]
          have ho := G.out.lt
          have bj := below1 D2 (.cells #[.int .i64 0, .int .i64 0, .int .i64 0, .int .i64 0, .int .i64 0, .int .i64 0, .bool false, .int .u64 0, .int .u64 0, .int .u64 0, .int .u64 0] 28)
          have kb3 := kb2.trans (bj.mono kb2.size)
          replace G := hide_ (G.out.later bj)
          have nX : Hid (∀ k, rc.ownBlock = some k → k ≠ D2.heap.size) := hide_ (fun k e => Nat.ne_of_lt (own.out.lt k e).2)
          replace own := hide_ (own.out.alloc (.cells #[.int .i64 0, .int .i64 0, .int .i64 0, .int .i64 0, .int .i64 0, .int .i64 0, .bool false, .int .u64 0, .int .u64 0, .int .u64 0, .int .u64 0] 28))
          replace lC := Nat.le_trans lC bj.size
          have X := hide_ (AB.at0 D2 28 [.int .i64 0, .int .i64 0, .int .i64 0, .int .i64 0, .int .i64 0, .int .i64 0, .bool false, .int .u64 0, .int .u64 0, .int .u64 0, .int .u64 0])
          have lX : w1.heap.size ≤ D2.heap.size := kb2.size
          have nXG : D2.heap.size ≠ g9 := by omega
          clear ho
          clear bj
          generalize D2.alloc (.cells #[.int .i64 0, .int .i64 0, .int .i64 0, .int .i64 0, .int .i64 0, .int .i64 0, .bool false, .int .u64 0, .int .u64 0, .int .u64 0, .int .u64 0] 28) = D3 at *
          generalize D2.heap.size = g7 at *
          refine wpAnyH_ready (rs := [7]) (by kernel_rfl) (by simp) ?_
          refine AllReadyH.cons rfl (fun K hK => ?_) (AllReadyH.nil)
          refine step_append_ownB rfl (.tmp 24) (.tmp 29) 29 rfl bs 5 i0 Try.underlying29 HI.out.1 HI.out.2.1 HI.out.2.2.1 HI.out.2.2.2 rc L.length (u8s L) (by first | rfl | simp [Act.eval, Act.put]) own.out (.slice ao n8 cap) (l.take n8) (by first | rfl | simp [Act.eval, Act.put]) (S3.out.later kb3) H63.out lC ?_
          intro va D4 own2 hg
          refine hK.out _ _ (kb3.trans (below_grown hg w1.heap.size kb3.size (fun k e => Nat.le_trans lB (own.out.lt k e).1))) (fun hHeld => ?_)
          clear hK K
          try simp only [Act.put, List.setIfInBounds_toArray, List.set_cons_zero, List.set_cons_succ]
          have kb4 := kb3.trans (below_grown hg w1.heap.size kb3.size (fun k e => Nat.le_trans lB (own.out.lt k e).1))
          replace X := hide_ (ab_grown X.out hg nX.out)
          replace G := hide_ (ab_grown G.out hg nG.out)
          have hA := hide_ (bytes_app own2 IB.out IT.out)
          clear own2 hg own
          clear nX
          clear nG
          refine wpAnyH_ready (rs := [8]) (by kernel_rfl) (by simp) ?_
          refine AllReadyH.cons rfl (fun K hK => ?_) (AllReadyH.nil)
          go_simp
          refine (qd1.out _ _ hA.out).mono ?_
          rintro e D5 ⟨rfl, bj⟩
          refine hK.out _ _ (kb4.trans (bj.mono kb4.size)) (fun hHeld => ?_)
          clear hK K
          try simp only [Act.put, List.setIfInBounds_toArray, List.set_cons_zero, List.set_cons_succ]
          have kb5 := kb4.trans (bj.mono kb4.size)
          replace X := hide_ (X.out.later bj)
          replace G := hide_ (G.out.later bj)
          clear bj hA
          refine takeR (i := 9) (v := ?_) rfl (by kernel_rfl) (by kernel_rfl) (by kernel_rfl) (some 22) rfl (Or.inl ⟨by rfl, ?_⟩) (fun _ _ _ h => h) (by assumption) ?_
          rotate_left
          · intro w hSw; (try dsimp only at hSw); go_simp; (try with_reducible rfl)
          simp only [Act.put, List.setIfInBounds_toArray, List.set_cons_zero, List.set_cons_succ]
          refine takeR (i := 10) (v := ?_) rfl (by kernel_rfl) (by kernel_rfl) (by kernel_rfl) (some 32) rfl (Or.inl ⟨by rfl, ?_⟩) (fun _ _ _ h => h) (by assumption) ?_
          rotate_left
          · intro w hSw; (try dsimp only at hSw); go_simp; (try with_reducible rfl)
          simp only [Act.put, List.setIfInBounds_toArray, List.set_cons_zero, List.set_cons_succ]
          refine takeR (i := 11) (v := ?_) rfl (by kernel_rfl) (by kernel_rfl) (by kernel_rfl) (some 33) rfl (Or.inl ⟨by rfl, ?_⟩) (fun _ _ _ h => h) (by assumption) ?_
          rotate_left
          · intro w hSw; (try dsimp only at hSw); go_simp; (try with_reducible rfl)
          simp only [Act.put, List.setIfInBounds_toArray, List.set_cons_zero, List.set_cons_succ]
          refine takeR (i := 12) (v := ?_) rfl (by kernel_rfl) (by kernel_rfl) (by kernel_rfl) (some 34) rfl (Or.inl ⟨by rfl, ?_⟩) (fun _ _ _ h => h) (by assumption) ?_
          rotate_left
          · intro w hSw; (try dsimp only at hSw); go_simp; (try with_reducible rfl)
          simp only [Act.put, List.setIfInBounds_toArray, List.set_cons_zero, List.set_cons_succ]
          refine wpAnyH_ready (rs := [15]) (by kernel_rfl) (by simp) ?_
          refine AllReadyH.cons rfl (fun K hK => ?_) (AllReadyH.nil)
          obtain ⟨z0, z1, z2, z3, z4, z5, z6, z7, z8, z9, z10, z11, z12, z13, z14, z15, z16, z17, z18, z19, z20, z21⟩ := X.out.eleven
          go_simp
          refine hK.out _ _ (below_set11 kb5 lX _ _ _ _ _ _ _ _ _ _ _) (fun hHeld => ?_)
          clear hK K
          try simp only [Act.put, List.setIfInBounds_toArray, List.set_cons_zero, List.set_cons_succ]
          clear z0 z1 z2 z3 z4 z5 z6 z7 z8 z9 z10 z11 z12 z13 z14 z15 z16 z17 z18 z19 z20 z21
          replace G := hide_ (G.out.far11 (h := g7) (Ne.symm nXG) (.int .i64 kA) (.int .i64 pA) (.int .i64 xA) (.int .i64 qA) (.int .i64 yA) (.int .i64 fA) (.bool mA) (.int .u64 (aA : Int)) (.int .u64 (bA : Int)) (.int .u64 (cA : Int)) (.int .u64 (dA : Int)))
          replace X := hide_ (X.out.set11 (.int .i64 kA) (.int .i64 pA) (.int .i64 xA) (.int .i64 qA) (.int .i64 yA) (.int .i64 fA) (.bool mA) (.int .u64 (aA : Int)) (.int .u64 (bA : Int)) (.int .u64 (cA : Int)) (.int .u64 (dA : Int)))
          have kb6 := below_set11 (g := g7) kb5 lX (.int .i64 kA) (.int .i64 pA) (.int .i64 xA) (.int .i64 qA) (.int .i64 yA) (.int .i64 fA) (.bool mA) (.int .u64 (aA : Int)) (.int .u64 (bA : Int)) (.int .u64 (cA : Int)) (.int .u64 (dA : Int))
          generalize (((((((((((D5.setCell ⟨g7, 0, none⟩ (.int .i64 kA)).setCell ⟨g7, 1, none⟩ (.int .i64 pA)).setCell ⟨g7, 2, none⟩ (.int .i64 xA)).setCell ⟨g7, 3, none⟩ (.int .i64 qA)).setCell ⟨g7, 4, none⟩ (.int .i64 yA)).setCell ⟨g7, 5, none⟩ (.int .i64 fA)).setCell ⟨g7, 6, none⟩ (.bool mA)).setCell ⟨g7, 7, none⟩ (.int .u64 (aA : Int))).setCell ⟨g7, 8, none⟩ (.int .u64 (bA : Int))).setCell ⟨g7, 9, none⟩ (.int .u64 (cA : Int))).setCell ⟨g7, 10, none⟩ (.int .u64 (dA : Int))) = D6 at *
          refine takeR (i := 16) (v := ?_) rfl (by kernel_rfl) (by kernel_rfl) (by kernel_rfl) (some 8) rfl (Or.inl ⟨by rfl, ?_⟩) (fun _ _ _ h => h) (by assumption) ?_
          rotate_left
          · intro w hSw; (try dsimp only at hSw); go_simp; (try with_reducible rfl)
          simp only [Act.put, List.setIfInBounds_toArray, List.set_cons_zero, List.set_cons_succ]
          refine wpAnyH_ready (rs := [17]) (by kernel_rfl) (by simp) ?_
          refine AllReadyH.cons rfl (fun K hK => ?_) (AllReadyH.nil)
          obtain ⟨z0, z1, z2, z3, z4, z5⟩ := G.out.three
          go_simp
          refine hK.out _ _ (below_set3 kb6 lG _ _ _) (fun hHeld => ?_)
          clear hK K
          try simp only [Act.put, List.setIfInBounds_toArray, List.set_cons_zero, List.set_cons_succ]
          clear z0 z1 z2 z3 z4 z5
          replace X := hide_ (X.out.far3 (h := g9) nXG (.bool false) (.int .i64 0) (.int .i64 0))
          replace G := hide_ (G.out.set3 (.bool false) (.int .i64 0) (.int .i64 0))
          have kb7 := below_set3 (g := g9) kb6 lG (.bool false) (.int .i64 0) (.int .i64 0)
          generalize (((D6.setCell ⟨g9, 0, none⟩ (.bool false)).setCell ⟨g9, 1, none⟩ (.int .i64 0)).setCell ⟨g9, 2, none⟩ (.int .i64 0)) = D7 at *
          refine wpAnyH_done (by kernel_rfl) ?_ _
          go_wp2_with fail
          go_meet
          exact ⟨g7, g9, rfl, rfl, rfl, X.out, G.out, kb7⟩
    · go_simp
      refine hK.out _ _ (kb0.trans ((below1 D0 (.cells #[.int .i64 0, .int .i64 0, .int .i64 0, .int .i64 0, .int .i64 0, .int .i64 0, .bool false, .int .u64 0, .int .u64 0, .int .u64 0, .int .u64 0] 28)).mono kb0.size)) (fun hHeld => ?_)
      clear hK K
      try simp only [Act.put, List.setIfInBounds_toArray, List.set_cons_zero, List.set_cons_succ]
      have bj := below1 D0 (.cells #[.int .i64 0, .int .i64 0, .int .i64 0, .int .i64 0, .int .i64 0, .int .i64 0, .bool false, .int .u64 0, .int .u64 0, .int .u64 0, .int .u64 0] 28)
      have kb1 := kb0.trans (bj.mono kb0.size)
      have X := hide_ (AB.at0 D0 28 [.int .i64 0, .int .i64 0, .int .i64 0, .int .i64 0, .int .i64 0, .int .i64 0, .bool false, .int .u64 0, .int .u64 0, .int .u64 0, .int .u64 0])
      have lX : w1.heap.size ≤ D0.heap.size := kb0.size
      clear bj
      generalize D0.alloc (.cells #[.int .i64 0, .int .i64 0, .int .i64 0, .int .i64 0, .int .i64 0, .int .i64 0, .bool false, .int .u64 0, .int .u64 0, .int .u64 0, .int .u64 0] 28) = D1 at *
      generalize D0.heap.size = g7 at *
      refine wpAnyH_ready (rs := [1, 14]) (by kernel_rfl) (by simp) ?_
      refine AllReadyH.cons rfl (fun K hK => ?_) (AllReadyH.cons rfl (fun K hK => ?_) (AllReadyH.nil))
      · go_simp
        refine (qc.out _ kb1).mono ?_
        rintro e D2 ⟨rc, rfl, own, bj⟩
        refine hK.out _ _ (kb1.trans (bj.mono kb1.size)) (fun hHeld => ?_)
        clear hK K
        try simp only [Act.put, List.setIfInBounds_toArray, List.set_cons_zero, List.set_cons_succ]
        have kb2 := kb1.trans (bj.mono kb1.size)
        have lB : w1.heap.size ≤ D1.heap.size := kb1.size
        replace own := hide_ own
        have lC : D1.heap.size ≤ D2.heap.size := bj.size
        have nX : Hid (∀ k, rc.ownBlock = some k → k ≠ g7) := hide_ (fun k e => by have h1 := (own.out.lt k e).1; have h2 := X.out.lt; omega)
        replace X := hide_ (X.out.later bj)
        clear bj
        generalize D1.heap.size = bs at *
        refine wpAnyH_ready (rs := [7, 14]) (by kernel_rfl) (by simp) ?_
        refine AllReadyH.cons rfl (fun K hK => ?_) (AllReadyH.cons rfl (fun K hK => ?_) (AllReadyH.nil))
        · refine step_append_ownB rfl (.tmp 24) (.tmp 29) 29 rfl bs 5 i0 Try.underlying29 HI.out.1 HI.out.2.1 HI.out.2.2.1 HI.out.2.2.2 rc L.length (u8s L) (by first | rfl | simp [Act.eval, Act.put]) own.out (.slice ao n8 cap) (l.take n8) (by first | rfl | simp [Act.eval, Act.put]) (S3.out.later kb2) H63.out lC ?_
          intro va D3 own2 hg
          refine hK.out _ _ (kb2.trans (below_grown hg w1.heap.size kb2.size (fun k e => Nat.le_trans lB (own.out.lt k e).1))) (fun hHeld => ?_)
          clear hK K
          try simp only [Act.put, List.setIfInBounds_toArray, List.set_cons_zero, List.set_cons_succ]
          have kb3 := kb2.trans (below_grown hg w1.heap.size kb2.size (fun k e => Nat.le_trans lB (own.out.lt k e).1))
          replace X := hide_ (ab_grown X.out hg nX.out)
          have hA := hide_ (bytes_app own2 IB.out IT.out)
          clear own2 hg own
          clear nX
          refine wpAnyH_ready (rs := [8, 14]) (by kernel_rfl) (by simp) ?_
          refine AllReadyH.cons rfl (fun K hK => ?_) (AllReadyH.cons rfl (fun K hK => ?_) (AllReadyH.nil))
          · go_simp
            refine (qd1.out _ _ hA.out).mono ?_
            rintro e D4 ⟨rfl, bj⟩
            refine hK.out _ _ (kb3.trans (bj.mono kb3.size)) (fun hHeld => ?_)
            clear hK K
            try simp only [Act.put, List.setIfInBounds_toArray, List.set_cons_zero, List.set_cons_succ]
            have kb4 := kb3.trans (bj.mono kb3.size)
            replace X := hide_ (X.out.later bj)
            clear bj hA
            refine takeR (i := 9) (v := ?_) rfl (by kernel_rfl) (by kernel_rfl) (by kernel_rfl) (some 22) rfl (Or.inl ⟨by rfl, ?_⟩) (fun _ _ _ h => h) (by assumption) ?_
            rotate_left
            · intro w hSw; (try dsimp only at hSw); go_simp; (try with_reducible rfl)
            simp only [Act.put, List.setIfInBounds_toArray, List.set_cons_zero, List.set_cons_succ]
            refine takeR (i := 10) (v := ?_) rfl (by kernel_rfl) (by kernel_rfl) (by kernel_rfl) (some 32) rfl (Or.inl ⟨by rfl, ?_⟩) (fun _ _ _ h => h) (by assumption) ?_
            rotate_left
            · intro w hSw; (try dsimp only at hSw); go_simp; (try with_reducible rfl)
            simp only [Act.put, List.setIfInBounds_toArray, List.set_cons_zero, List.set_cons_succ]
            refine takeR (i := 11) (v := ?_) rfl (by kernel_rfl) (by kernel_rfl) (by kernel_rfl) (some 33) rfl (Or.inl ⟨by rfl, ?_⟩) (fun _ _ _ h => h) (by assumption) ?_
            rotate_left
            · intro w hSw; (try dsimp only at hSw); go_simp; (try with_reducible rfl)
            simp only [Act.put, List.setIfInBounds_toArray, List.set_cons_zero, List.set_cons_succ]
            refine takeR (i := 12) (v := ?_) rfl (by kernel_rfl) (by kernel_rfl) (by kernel_rfl) (some 34) rfl (Or.inl ⟨by rfl, ?_⟩) (fun _ _ _ h => h) (by assumption) ?_
            rotate_left
            · intro w hSw; (try dsimp only at hSw); go_simp; (try with_reducible rfl)
            simp only [Act.put, List.setIfInBounds_toArray, List.set_cons_zero, List.set_cons_succ]
            refine wpAnyH_ready (rs := [14]) (by kernel_rfl) (by simp) ?_
            refine AllReadyH.cons rfl (fun K hK => ?_) (AllReadyH.nil)
            go_simp
            refine hK.out _ _ (kb4.trans ((below1 D4 (.cells #[.bool false, .int .i64 0, .int .i64 0] 40)).mono kb4.size)) (fun hHeld => ?_)
            clear hK K
            try simp only [Act.put, List.setIfInBounds_toArray, List.set_cons_zero, List.set_cons_succ]
            have ho := X.out.lt
            have bj := below1 D4 (.cells #[.bool false, .int .i64 0, .int .i64 0] 40)
            have kb5 := kb4.trans (bj.mono kb4.size)
            replace X := hide_ (X.out.later bj)
            have G := hide_ (AB.at0 D4 40 [.bool false, .int .i64 0, .int .i64 0])
            have lG : w1.heap.size ≤ D4.heap.size := kb4.size
            have nXG : g7 ≠ D4.heap.size := by omega
            clear ho
            clear bj
            generalize D4.alloc (.cells #[.bool false, .int .i64 0, .int .i64 0] 40) = D5 at *
            generalize D4.heap.size = g9 at *
            refine wpAnyH_ready (rs := [15]) (by kernel_rfl) (by simp) ?_
            refine AllReadyH.cons rfl (fun K hK => ?_) (AllReadyH.nil)
            obtain ⟨z0, z1, z2, z3, z4, z5, z6, z7, z8, z9, z10, z11, z12, z13, z14, z15, z16, z17, z18, z19, z20, z21⟩ := X.out.eleven
            go_simp
            refine hK.out _ _ (below_set11 kb5 lX _ _ _ _ _ _ _ _ _ _ _) (fun hHeld => ?_)
            clear hK K
            try simp only [Act.put, List.setIfInBounds_toArray, List.set_cons_zero, List.set_cons_succ]
            clear z0 z1 z2 z3 z4 z5 z6 z7 z8 z9 z10 z11 z12 z13 z14 z15 z16 z17 z18 z19 z20 z21
            replace G := hide_ (G.out.far11 (h := g7) (Ne.symm nXG) (.int .i64 kA) (.int .i64 pA) (.int .i64 xA) (.int .i64 qA) (.int .i64 yA) (.int .i64 fA) (.bool mA) (.int .u64 (aA : Int)) (.int .u64 (bA : Int)) (.int .u64 (cA : Int)) (.int .u64 (dA : Int)))
            replace X := hide_ (X.out.set11 (.int .i64 kA) (.int .i64 pA) (.int .i64 xA) (.int .i64 qA) (.int .i64 yA) (.int .i64 fA) (.bool mA) (.int .u64 (aA : Int)) (.int .u64 (bA : Int)) (.int .u64 (cA : Int)) (.int .u64 (dA : Int)))
            have kb6 := below_set11 (g := g7) kb5 lX (.int .i64 kA) (.int .i64 pA) (.int .i64 xA) (.int .i64 qA) (.int .i64 yA) (.int .i64 fA) (.bool mA) (.int .u64 (aA : Int)) (.int .u64 (bA : Int)) (.int .u64 (cA : Int)) (.int .u64 (dA : Int))
            generalize (((((((((((D5.setCell ⟨g7, 0, none⟩ (.int .i64 kA)).setCell ⟨g7, 1, none⟩ (.int .i64 pA)).setCell ⟨g7, 2, none⟩ (.int .i64 xA)).setCell ⟨g7, 3, none⟩ (.int .i64 qA)).setCell ⟨g7, 4, none⟩ (.int .i64 yA)).setCell ⟨g7, 5, none⟩ (.int .i64 fA)).setCell ⟨g7, 6, none⟩ (.bool mA)).setCell ⟨g7, 7, none⟩ (.int .u64 (aA : Int))).setCell ⟨g7, 8, none⟩ (.int .u64 (bA : Int))).setCell ⟨g7, 9, none⟩ (.int .u64 (cA : Int))).setCell ⟨g7, 10, none⟩ (.int .u64 (dA : Int))) = D6 at *
            refine takeR (i := 16) (v := ?_) rfl (by kernel_rfl) (by kernel_rfl) (by kernel_rfl) (some 8) rfl (Or.inl ⟨by rfl, ?_⟩) (fun _ _ _ h => h) (by assumption) ?_
            rotate_left
            · intro w hSw; (try dsimp only at hSw); go_simp; (try with_reducible rfl)
            simp only [Act.put, List.setIfInBounds_toArray, List.set_cons_zero, List.set_cons_succ]
            refine wpAnyH_ready (rs := [17]) (by kernel_rfl) (by simp) ?_
            refine AllReadyH.cons rfl (fun K hK => ?_) (AllReadyH.nil)
            obtain ⟨z0, z1, z2, z3, z4, z5⟩ := G.out.three
            go_simp
            refine hK.out _ _ (below_set3 kb6 lG _ _ _) (fun hHeld => ?_)
            clear hK K
            try simp only [Act.put, List.setIfInBounds_toArray, List.set_cons_zero, List.set_cons_succ]
            clear z0 z1 z2 z3 z4 z5
            replace X := hide_ (X.out.far3 (h := g9) nXG (.bool false) (.int .i64 0) (.int .i64 0))
            replace G := hide_ (G.out.set3 (.bool false) (.int .i64 0) (.int .i64 0))
            have kb7 := below_set3 (g := g9) kb6 lG (.bool false) (.int .i64 0) (.int .i64 0)
            generalize (((D6.setCell ⟨g9, 0, none⟩ (.bool false)).setCell ⟨g9, 1, none⟩ (.int .i64 0)).setCell ⟨g9, 2, none⟩ (.int .i64 0)) = D7 at *
            refine wpAnyH_done (by kernel_rfl) ?_ _
            go_wp2_with fail
            go_meet
            exact ⟨g7, g9, rfl, rfl, rfl, X.out, G.out, kb7⟩
          · go_simp
            refine hK.out _ _ (kb3.trans ((below1 D3 (.cells #[.bool false, .int .i64 0, .int .i64 0] 40)).mono kb3.size)) (fun hHeld => ?_)
            clear hK K
            try simp only [Act.put, List.setIfInBounds_toArray, List.set_cons_zero, List.set_cons_succ]
            have ho := X.out.lt
            have bj := below1 D3 (.cells #[.bool false, .int .i64 0, .int .i64 0] 40)
            have kb4 := kb3.trans (bj.mono kb3.size)
            replace X := hide_ (X.out.later bj)
            replace hA := hide_ (hA.out.later bj)
            have G := hide_ (AB.at0 D3 40 [.bool false, .int .i64 0, .int .i64 0])
            have lG : w1.heap.size ≤ D3.heap.size := kb3.size
            have nXG : g7 ≠ D3.heap.size := by omega
            clear ho
            clear bj
            generalize D3.alloc (.cells #[.bool false, .int .i64 0, .int .i64 0] 40) = D4 at *
            generalize D3.heap.size = g9 at *
            refine wpAnyH_ready (rs := [8]) (by kernel_rfl) (by simp) ?_
            refine AllReadyH.cons rfl (fun K hK => ?_) (AllReadyH.nil)
            go_simp
            refine (qd1.out _ _ hA.out).mono ?_
            rintro e D5 ⟨rfl, bj⟩
            refine hK.out _ _ (kb4.trans (bj.mono kb4.size)) (fun hHeld => ?_)
            clear hK K
            try simp only [Act.put, List.setIfInBounds_toArray, List.set_cons_zero, List.set_cons_succ]
            have kb5 := kb4.trans (bj.mono kb4.size)
            replace X := hide_ (X.out.later bj)
            replace G := hide_ (G.out.later bj)
            clear bj hA
            refine takeR (i := 9) (v := ?_) rfl (by kernel_rfl) (by kernel_rfl) (by kernel_rfl) (some 22) rfl (Or.inl ⟨by rfl, ?_⟩) (fun _ _ _ h => h) (by assumption) ?_
            rotate_left
            · intro w hSw; (try dsimp only at hSw); go_simp; (try with_reducible rfl)
            simp only [Act.put, List.setIfInBounds_toArray, List.set_cons_zero, List.set_cons_succ]
            refine takeR (i := 10) (v := ?_) rfl (by kernel_rfl) (by kernel_rfl) (by kernel_rfl) (some 32) rfl (Or.inl ⟨by rfl, ?_⟩) (fun _ _ _ h => h) (by assumption) ?_
            rotate_left
            · intro w hSw; (try dsimp only at hSw); go_simp; (try with_reducible rfl)
            simp only [Act.put, List.setIfInBounds_toArray, List.set_cons_zero, List.set_cons_succ]
            refine takeR (i := 11) (v := ?_) rfl (by kernel_rfl) (by kernel_rfl) (by kernel_rfl) (some 33) rfl (Or.inl ⟨by rfl, ?_⟩) (fun _ _ _ h => h) (by assumption) ?_
            rotate_left
            · intro w hSw; (try dsimp only at hSw); go_simp; (try with_reducible rfl)
            simp only [Act.put, List.setIfInBounds_toArray, List.set_cons_zero, List.set_cons_succ]
            refine takeR (i := 12) (v := ?_) rfl (by kernel_rfl) (by kernel_rfl) (by kernel_rfl) (some 34) rfl (Or.inl ⟨by rfl, ?_⟩) (fun _ _ _ h => h) (by assumption) ?_
            rotate_left
            · intro w hSw; (try dsimp only at hSw); go_simp; (try with_reducible rfl)
            simp only [Act.put, List.setIfInBounds_toArray, List.set_cons_zero, List.set_cons_succ]
            refine wpAnyH_ready (rs := [15]) (by kernel_rfl) (by simp) ?_
            refine AllReadyH.cons rfl (fun K hK => ?_) (AllReadyH.nil)
            obtain ⟨z0, z1, z2, z3, z4, z5, z6, z7, z8, z9, z10, z11, z12, z13, z14, z15, z16, z17, z18, z19, z20, z21⟩ := X.out.eleven
            go_simp
            refine hK.out _ _ (below_set11 kb5 lX _ _ _ _ _ _ _ _ _ _ _) (fun hHeld => ?_)
            clear hK K
            try simp only [Act.put, List.setIfInBounds_toArray, List.set_cons_zero, List.set_cons_succ]
            clear z0 z1 z2 z3 z4 z5 z6 z7 z8 z9 z10 z11 z12 z13 z14 z15 z16 z17 z18 z19 z20 z21
            replace G := hide_ (G.out.far11 (h := g7) (Ne.symm nXG) (.int .i64 kA) (.int .i64 pA) (.int .i64 xA) (.int .i64 qA) (.int .i64 yA) (.int .i64 fA) (.bool mA) (.int .u64 (aA : Int)) (.int .u64 (bA : Int)) (.int .u64 (cA : Int)) (.int .u64 (dA : Int)))
            replace X := hide_ (X.out.set11 (.int .i64 kA) (.int .i64 pA) (.int .i64 xA) (.int .i64 qA) (.int .i64 yA) (.int .i64 fA) (.bool mA) (.int .u64 (aA : Int)) (.int .u64 (bA : Int)) (.int .u64 (cA : Int)) (.int .u64 (dA : Int)))
            have kb6 := below_set11 (g := g7) kb5 lX (.int .i64 kA) (.int .i64 pA) (.int .i64 xA) (.int .i64 qA) (.int .i64 yA) (.int .i64 fA) (.bool mA) (.int .u64 (aA : Int)) (.int .u64 (bA : Int)) (.int .u64 (cA : Int)) (.int .u64 (dA : Int))
            generalize (((((((((((D5.setCell ⟨g7, 0, none⟩ (.int .i64 kA)).setCell ⟨g7, 1, none⟩ (.int .i64 pA)).setCell ⟨g7, 2, none⟩ (.int .i64 xA)).setCell ⟨g7, 3, none⟩ (.int .i64 qA)).setCell ⟨g7, 4, none⟩ (.int .i64 yA)).setCell ⟨g7, 5, none⟩ (.int .i64 fA)).setCell ⟨g7, 6, none⟩ (.bool mA)).setCell ⟨g7, 7, none⟩ (.int .u64 (aA : Int))).setCell ⟨g7, 8, none⟩ (.int .u64 (bA : Int))).setCell ⟨g7, 9, none⟩ (.int .u64 (cA : Int))).setCell ⟨g7, 10, none⟩ (.int .u64 (dA : Int))) = D6 at *
            refine takeR (i := 16) (v := ?_) rfl (by kernel_rfl) (by kernel_rfl) (by kernel_rfl) (some 8) rfl (Or.inl ⟨by rfl, ?_⟩) (fun _ _ _ h => h) (by assumption) ?_
            rotate_left
            · intro w hSw; (try dsimp only at hSw); go_simp; (try with_reducible rfl)
            simp only [Act.put, List.setIfInBounds_toArray, List.set_cons_zero, List.set_cons_succ]
            refine wpAnyH_ready (rs := [17]) (by kernel_rfl) (by simp) ?_
            refine AllReadyH.cons rfl (fun K hK => ?_) (AllReadyH.nil)
            obtain ⟨z0, z1, z2, z3, z4, z5⟩ := G.out.three
            go_simp
            refine hK.out _ _ (below_set3 kb6 lG _ _ _) (fun hHeld => ?_)
            clear hK K
            try simp only [Act.put, List.setIfInBounds_toArray, List.set_cons_zero, List.set_cons_succ]
            clear z0 z1 z2 z3 z4 z5
            replace X := hide_ (X.out.far3 (h := g9) nXG (.bool false) (.int .i64 0) (.int .i64 0))
            replace G := hide_ (G.out.set3 (.bool false) (.int .i64 0) (.int .i64 0))
            have kb7 := below_set3 (g := g9) kb6 lG (.bool false) (.int .i64 0) (.int .i64 0)
            generalize (((D6.setCell ⟨g9, 0, none⟩ (.bool false)).setCell ⟨g9, 1, none⟩ (.int .i64 0)).setCell ⟨g9, 2, none⟩ (.int .i64 0)) = D7 at *
            refine wpAnyH_done (by kernel_rfl) ?_ _
            go_wp2_with fail
            go_meet
            exact ⟨g7, g9, rfl, rfl, rfl, X.out, G.out, kb7⟩
        · go_simp
          refine hK.out _ _ (kb2.trans ((below1 D2 (.cells #[.bool false, .int .i64 0, .int .i64 0] 40)).mono kb2.size)) (fun hHeld => ?_)
          clear hK K
          try simp only [Act.put, List.setIfInBounds_toArray, List.set_cons_zero, List.set_cons_succ]
          have ho := X.out.lt
          have bj := below1 D2 (.cells #[.bool false, .int .i64 0, .int .i64 0] 40)
          have kb3 := kb2.trans (bj.mono kb2.size)
          replace X := hide_ (X.out.later bj)
          have nG : Hid (∀ k, rc.ownBlock = some k → k ≠ D2.heap.size) := hide_ (fun k e => Nat.ne_of_lt (own.out.lt k e).2)
          replace own := hide_ (own.out.alloc (.cells #[.bool false, .int .i64 0, .int .i64 0] 40))
          replace lC := Nat.le_trans lC bj.size
          have G := hide_ (AB.at0 D2 40 [.bool false, .int .i64 0, .int .i64 0])
          have lG : w1.heap.size ≤ D2.heap.size := kb2.size
          have nXG : g7 ≠ D2.heap.size := by omega
          clear ho
          clear bj
          generalize D2.alloc (.cells #[.bool false, .int .i64 0, .int .i64 0] 40) = D3 at *
          generalize D2.heap.size = g9 at *
          refine wpAnyH_ready (rs := [7]) (by kernel_rfl) (by simp) ?_
          refine AllReadyH.cons rfl (fun K hK => ?_) (AllReadyH.nil)
          refine step_append_ownB rfl (.tmp 24) (.tmp 29) 29 rfl bs 5 i0 Try.underlying29 HI.out.1 HI.out.2.1 HI.out.2.2.1 HI.out.2.2.2 rc L.length (u8s L) (by first | rfl | simp [Act.eval, Act.put]) own.out (.slice ao n8 cap) (l.take n8) (by first | rfl | simp [Act.eval, Act.put]) (S3.out.later kb3) H63.out lC ?_
          intro va D4 own2 hg
          refine hK.out _ _ (kb3.trans (below_grown hg w1.heap.size kb3.size (fun k e => Nat.le_trans lB (own.out.lt k e).1))) (fun hHeld => ?_)
          clear hK K
          try simp only [Act.put, List.setIfInBounds_toArray, List.set_cons_zero, List.set_cons_succ]
          have kb4 := kb3.trans (below_grown hg w1.heap.size kb3.size (fun k e => Nat.le_trans lB (own.out.lt k e).1))
          replace X := hide_ (ab_grown X.out hg nX.out)
          replace G := hide_ (ab_grown G.out hg nG.out)
          have hA := hide_ (bytes_app own2 IB.out IT.out)
          clear own2 hg own
          clear nX
          clear nG
          refine wpAnyH_ready (rs := [8]) (by kernel_rfl) (by simp) ?_
          refine AllReadyH.cons rfl (fun K hK => ?_) (AllReadyH.nil)
          go_simp
          refine (qd1.out _ _ hA.out).mono ?_
          rintro e D5 ⟨rfl, bj⟩
          refine hK.out _ _ (kb4.trans (bj.mono kb4.size)) (fun hHeld => ?_)
          clear hK K
          try simp only [Act.put, List.setIfInBounds_toArray, List.set_cons_zero, List.set_cons_succ]
          have kb5 := kb4.trans (bj.mono kb4.size)
          replace X := hide_ (X.out.later bj)
          replace G := hide_ (G.out.later bj)
          clear bj hA
          refine takeR (i := 9) (v := ?_) rfl (by kernel_rfl) (by kernel_rfl) (by kernel_rfl) (some 22) rfl (Or.inl ⟨by rfl, ?_⟩) (fun _ _ _ h => h) (by assumption) ?_
          rotate_left
          · intro w hSw; (try dsimp only at hSw); go_simp; (try with_reducible rfl)
          simp only [Act.put, List.setIfInBounds_toArray, List.set_cons_zero, List.set_cons_succ]
          refine takeR (i := 10) (v := ?_) rfl (by kernel_rfl) (by kernel_rfl) (by kernel_rfl) (some 32) rfl (Or.inl ⟨by rfl, ?_⟩) (fun _ _ _ h => h) (by assumption) ?_
          rotate_left
          · intro w hSw; (try dsimp only at hSw); go_simp; (try with_reducible rfl)
          simp only [Act.put, List.setIfInBounds_toArray, List.set_cons_zero, List.set_cons_succ]
          refine takeR (i := 11) (v := ?_) rfl (by kernel_rfl) (by kernel_rfl) (by kernel_rfl) (some 33) rfl (Or.inl ⟨by rfl, ?_⟩) (fun _ _ _ h => h) (by assumption) ?_
          rotate_left
          · intro w hSw; (try dsimp only at hSw); go_simp; (try with_reducible rfl)
          simp only [Act.put, List.setIfInBounds_toArray, List.set_cons_zero, List.set_cons_succ]
          refine takeR (i := 12) (v := ?_) rfl (by kernel_rfl) (by kernel_rfl) (by kernel_rfl) (some 34) rfl (Or.inl ⟨by rfl, ?_⟩) (fun _ _ _ h => h) (by assumption) ?_
          rotate_left
          · intro w hSw; (try dsimp only at hSw); go_simp; (try with_reducible rfl)
          simp only [Act.put, List.setIfInBounds_toArray, List.set_cons_zero, List.set_cons_succ]
          refine wpAnyH_ready (rs := [15]) (by kernel_rfl) (by simp) ?_
          refine AllReadyH.cons rfl (fun K hK => ?_) (AllReadyH.nil)
          obtain ⟨z0, z1, z2, z3, z4, z5, z6, z7, z8, z9, z10, z11, z12, z13, z14, z15, z16, z17, z18, z19, z20, z21⟩ := X.out.eleven
          go_simp
          refine hK.out _ _ (below_set11 kb5 lX _ _ _ _ _ _ _ _ _ _ _) (fun hHeld => ?_)
          clear hK K
          try simp only [Act.put, List.setIfInBounds_toArray, List.set_cons_zero, List.set_cons_succ]
          clear z0 z1 z2 z3 z4 z5 z6 z7 z8 z9 z10 z11 z12 z13 z14 z15 z16 z17 z18 z19 z20 z21
          replace G := hide_ (G.out.far11 (h := g7) (Ne.symm nXG) (.int .i64 kA) (.int .i64 pA) (.int .i64 xA) (.int .i64 qA) (.int .i64 yA) (.int .i64 fA) (.bool mA) (.int .u64 (aA : Int)) (.int .u64 (bA : Int)) (.int .u64 (cA : Int)) (.int .u64 (dA : Int)))
          replace X := hide_ (X.out.set11 (.int .i64 kA) (.int .i64 pA) (.int .i64 xA) (.int .i64 qA) (.int .i64 yA) (.int .i64 fA) (.bool mA) (.int .u64 (aA : Int)) (.int .u64 (bA : Int)) (.int .u64 (cA : Int)) (.int .u64 (dA : Int)))
          have kb6 := below_set11 (g := g7) kb5 lX (.int .i64 kA) (.int .i64 pA) (.int .i64 xA) (.int .i64 qA) (.int .i64 yA) (.int .i64 fA) (.bool mA) (.int .u64 (aA : Int)) (.int .u64 (bA : Int)) (.int .u64 (cA : Int)) (.int .u64 (dA : Int))
          generalize (((((((((((D5.setCell ⟨g7, 0, none⟩ (.int .i64 kA)).setCell ⟨g7, 1, none⟩ (.int .i64 pA)).setCell ⟨g7, 2, none⟩ (.int .i64 xA)).setCell ⟨g7, 3, none⟩ (.int .i64 qA)).setCell ⟨g7, 4, none⟩ (.int .i64 yA)).setCell ⟨g7, 5, none⟩ (.int .i64 fA)).setCell ⟨g7, 6, none⟩ (.bool mA)).setCell ⟨g7, 7, none⟩ (.int .u64 (aA : Int))).setCell ⟨g7, 8, none⟩ (.int .u64 (bA : Int))).setCell ⟨g7, 9, none⟩ (.int .u64 (cA : Int))).setCell ⟨g7, 10, none⟩ (.int .u64 (dA : Int))) = D6 at *
          refine takeR (i := 16) (v := ?_) rfl (by kernel_rfl) (by kernel_rfl) (by kernel_rfl) (some 8) rfl (Or.inl ⟨by rfl, ?_⟩) (fun _ _ _ h => h) (by assumption) ?_
          rotate_left
          · intro w hSw; (try dsimp only at hSw); go_simp; (try with_reducible rfl)
          simp only [Act.put, List.setIfInBounds_toArray, List.set_cons_zero, List.set_cons_succ]
          refine wpAnyH_ready (rs := [17]) (by kernel_rfl) (by simp) ?_
          refine AllReadyH.cons rfl (fun K hK => ?_) (AllReadyH.nil)
          obtain ⟨z0, z1, z2, z3, z4, z5⟩ := G.out.three
          go_simp
          refine hK.out _ _ (below_set3 kb6 lG _ _ _) (fun hHeld => ?_)
          clear hK K
          try simp only [Act.put, List.setIfInBounds_toArray, List.set_cons_zero, List.set_cons_succ]
          clear z0 z1 z2 z3 z4 z5
          replace X := hide_ (X.out.far3 (h := g9) nXG (.bool false) (.int .i64 0) (.int .i64 0))
          replace G := hide_ (G.out.set3 (.bool false) (.int .i64 0) (.int .i64 0))
          have kb7 := below_set3 (g := g9) kb6 lG (.bool false) (.int .i64 0) (.int .i64 0)
          generalize (((D6.setCell ⟨g9, 0, none⟩ (.bool false)).setCell ⟨g9, 1, none⟩ (.int .i64 0)).setCell ⟨g9, 2, none⟩ (.int .i64 0)) = D7 at *
          refine wpAnyH_done (by kernel_rfl) ?_ _
          go_wp2_with fail
          go_meet
          exact ⟨g7, g9, rfl, rfl, rfl, X.out, G.out, kb7⟩
      · go_simp
        refine hK.out _ _ (kb1.trans ((below1 D1 (.cells #[.bool false, .int .i64 0, .int .i64 0] 40)).mono kb1.size)) (fun hHeld => ?_)
        clear hK K
        try simp only [Act.put, List.setIfInBounds_toArray, List.set_cons_zero, List.set_cons_succ]
        have ho := X.out.lt
        have bj := below1 D1 (.cells #[.bool false, .int .i64 0, .int .i64 0] 40)
        have kb2 := kb1.trans (bj.mono kb1.size)
        replace X := hide_ (X.out.later bj)
        have G := hide_ (AB.at0 D1 40 [.bool false, .int .i64 0, .int .i64 0])
        have lG : w1.heap.size ≤ D1.heap.size := kb1.size
        have nXG : g7 ≠ D1.heap.size := by omega
        clear ho
        clear bj
        generalize D1.alloc (.cells #[.bool false, .int .i64 0, .int .i64 0] 40) = D2 at *
        generalize D1.heap.size = g9 at *
        refine wpAnyH_ready (rs := [1]) (by kernel_rfl) (by simp) ?_
        refine AllReadyH.cons rfl (fun K hK => ?_) (AllReadyH.nil)
        go_simp
        refine (qc.out _ kb2).mono ?_
        rintro e D3 ⟨rc, rfl, own, bj⟩
        refine hK.out _ _ (kb2.trans (bj.mono kb2.size)) (fun hHeld => ?_)
        clear hK K
        try simp only [Act.put, List.setIfInBounds_toArray, List.set_cons_zero, List.set_cons_succ]
        have kb3 := kb2.trans (bj.mono kb2.size)
        have lB : w1.heap.size ≤ D2.heap.size := kb2.size
        replace own := hide_ own
        have lC : D2.heap.size ≤ D3.heap.size := bj.size
        have nX : Hid (∀ k, rc.ownBlock = some k → k ≠ g7) := hide_ (fun k e => by have h1 := (own.out.lt k e).1; have h2 := X.out.lt; omega)
        have nG : Hid (∀ k, rc.ownBlock = some k → k ≠ g9) := hide_ (fun k e => by have h1 := (own.out.lt k e).1; have h2 := G.out.lt; omega)
        replace X := hide_ (X.out.later bj)
        replace G := hide_ (G.out.later bj)
        clear bj
        generalize D2.heap.size = bs at *
        refine wpAnyH_ready (rs := [7]) (by kernel_rfl) (by simp) ?_
        refine AllReadyH.cons rfl (fun K hK => ?_) (AllReadyH.nil)
        refine step_append_ownB rfl (.tmp 24) (.tmp 29) 29 rfl bs 5 i0 Try.underlying29 HI.out.1 HI.out.2.1 HI.out.2.2.1 HI.out.2.2.2 rc L.length (u8s L) (by first | rfl | simp [Act.eval, Act.put]) own.out (.slice ao n8 cap) (l.take n8) (by first | rfl | simp [Act.eval, Act.put]) (S3.out.later kb3) H63.out lC ?_
        intro va D4 own2 hg
        refine hK.out _ _ (kb3.trans (below_grown hg w1.heap.size kb3.size (fun k e => Nat.le_trans lB (own.out.lt k e).1))) (fun hHeld => ?_)
        clear hK K
        try simp only [Act.put, List.setIfInBounds_toArray, List.set_cons_zero, List.set_cons_succ]
        have kb4 := kb3.trans (below_grown hg w1.heap.size kb3.size (fun k e => Nat.le_trans lB (own.out.lt k e).1))
        replace X := hide_ (ab_grown X.out hg nX.out)
        replace G := hide_ (ab_grown G.out hg nG.out)
        have hA := hide_ (bytes_app own2 IB.out IT.out)
        clear own2 hg own
        clear nX
        clear nG
        refine wpAnyH_ready (rs := [8]) (by kernel_rfl) (by simp) ?_
        refine AllReadyH.cons rfl (fun K hK => ?_) (AllReadyH.nil)
        go_simp
        refine (qd1.out _ _ hA.out).mono ?_
        rintro e D5 ⟨rfl, bj⟩
        refine hK.out _ _ (kb4.trans (bj.mono kb4.size)) (fun hHeld => ?_)
        clear hK K
        try simp only [Act.put, List.setIfInBounds_toArray, List.set_cons_zero, List.set_cons_succ]
        have kb5 := kb4.trans (bj.mono kb4.size)
        replace X := hide_ (X.out.later bj)
        replace G := hide_ (G.out.later bj)
        clear bj hA
        refine takeR (i := 9) (v := ?_) rfl (by kernel_rfl) (by kernel_rfl) (by kernel_rfl) (some 22) rfl (Or.inl ⟨by rfl, ?_⟩) (fun _ _ _ h => h) (by assumption) ?_
        rotate_left
        · intro w hSw; (try dsimp only at hSw); go_simp; (try with_reducible rfl)
        simp only [Act.put, List.setIfInBounds_toArray, List.set_cons_zero, List.set_cons_succ]
        refine takeR (i := 10) (v := ?_) rfl (by kernel_rfl) (by kernel_rfl) (by kernel_rfl) (some 32) rfl (Or.inl ⟨by rfl, ?_⟩) (fun _ _ _ h => h) (by assumption) ?_
        rotate_left
        · intro w hSw; (try dsimp only at hSw); go_simp; (try with_reducible rfl)
        simp only [Act.put, List.setIfInBounds_toArray, List.set_cons_zero, List.set_cons_succ]
        refine takeR (i := 11) (v := ?_) rfl (by kernel_rfl) (by kernel_rfl) (by kernel_rfl) (some 33) rfl (Or.inl ⟨by rfl, ?_⟩) (fun _ _ _ h => h) (by assumption) ?_
        rotate_left
        · intro w hSw; (try dsimp only at hSw); go_simp; (try with_reducible rfl)
        simp only [Act.put, List.setIfInBounds_toArray, List.set_cons_zero, List.set_cons_succ]
        refine takeR (i := 12) (v := ?_) rfl (by kernel_rfl) (by kernel_rfl) (by kernel_rfl) (some 34) rfl (Or.inl ⟨by rfl, ?_⟩) (fun _ _ _ h => h) (by assumption) ?_
        rotate_left
        · intro w hSw; (try dsimp only at hSw); go_simp; (try with_reducible rfl)
        simp only [Act.put, List.setIfInBounds_toArray, List.set_cons_zero, List.set_cons_succ]
        refine wpAnyH_ready (rs := [15]) (by kernel_rfl) (by simp) ?_
        refine AllReadyH.cons rfl (fun K hK => ?_) (AllReadyH.nil)
        obtain ⟨z0, z1, z2, z3, z4, z5, z6, z7, z8, z9, z10, z11, z12, z13, z14, z15, z16, z17, z18, z19, z20, z21⟩ := X.out.eleven
        go_simp
        refine hK.out _ _ (below_set11 kb5 lX _ _ _ _ _ _ _ _ _ _ _) (fun hHeld => ?_)
        clear hK K
        try simp only [Act.put, List.setIfInBounds_toArray, List.set_cons_zero, List.set_cons_succ]
        clear z0 z1 z2 z3 z4 z5 z6 z7 z8 z9 z10 z11 z12 z13 z14 z15 z16 z17 z18 z19 z20 z21
        replace G := hide_ (G.out.far11 (h := g7) (Ne.symm nXG) (.int .i64 kA) (.int .i64 pA) (.int .i64 xA) (.int .i64 qA) (.int .i64 yA) (.int .i64 fA) (.bool mA) (.int .u64 (aA : Int)) (.int .u64 (bA : Int)) (.int .u64 (cA : Int)) (.int .u64 (dA : Int)))
        replace X := hide_ (X.out.set11 (.int .i64 kA) (.int .i64 pA) (.int .i64 xA) (.int .i64 qA) (.int .i64 yA) (.int .i64 fA) (.bool mA) (.int .u64 (aA : Int)) (.int .u64 (bA : Int)) (.int .u64 (cA : Int)) (.int .u64 (dA : Int)))
        have kb6 := below_set11 (g := g7) kb5 lX (.int .i64 kA) (.int .i64 pA) (.int .i64 xA) (.int .i64 qA) (.int .i64 yA) (.int .i64 fA) (.bool mA) (.int .u64 (aA : Int)) (.int .u64 (bA : Int)) (.int .u64 (cA : Int)) (.int .u64 (dA : Int))
        generalize (((((((((((D5.setCell ⟨g7, 0, none⟩ (.int .i64 kA)).setCell ⟨g7, 1, none⟩ (.int .i64 pA)).setCell ⟨g7, 2, none⟩ (.int .i64 xA)).setCell ⟨g7, 3, none⟩ (.int .i64 qA)).setCell ⟨g7, 4, none⟩ (.int .i64 yA)).setCell ⟨g7, 5, none⟩ (.int .i64 fA)).setCell ⟨g7, 6, none⟩ (.bool mA)).setCell ⟨g7, 7, none⟩ (.int .u64 (aA : Int))).setCell ⟨g7, 8, none⟩ (.int .u64 (bA : Int))).setCell ⟨g7, 9, none⟩ (.int .u64 (cA : Int))).setCell ⟨g7, 10, none⟩ (.int .u64 (dA : Int))) = D6 at *
        refine takeR (i := 16) (v := ?_) rfl (by kernel_rfl) (by kernel_rfl) (by kernel_rfl) (some 8) rfl (Or.inl ⟨by rfl, ?_⟩) (fun _ _ _ h => h) (by assumption) ?_
        rotate_left
        · intro w hSw; (try dsimp only at hSw); go_simp; (try with_reducible rfl)
        simp only [Act.put, List.setIfInBounds_toArray, List.set_cons_zero, List.set_cons_succ]
        refine wpAnyH_ready (rs := [17]) (by kernel_rfl) (by simp) ?_
        refine AllReadyH.cons rfl (fun K hK => ?_) (AllReadyH.nil)
        obtain ⟨z0, z1, z2, z3, z4, z5⟩ := G.out.three
        go_simp
        refine hK.out _ _ (below_set3 kb6 lG _ _ _) (fun hHeld => ?_)
        clear hK K
        try simp only [Act.put, List.setIfInBounds_toArray, List.set_cons_zero, List.set_cons_succ]
        clear z0 z1 z2 z3 z4 z5
        replace X := hide_ (X.out.far3 (h := g9) nXG (.bool false) (.int .i64 0) (.int .i64 0))
        replace G := hide_ (G.out.set3 (.bool false) (.int .i64 0) (.int .i64 0))
        have kb7 := below_set3 (g := g9) kb6 lG (.bool false) (.int .i64 0) (.int .i64 0)
        generalize (((D6.setCell ⟨g9, 0, none⟩ (.bool false)).setCell ⟨g9, 1, none⟩ (.int .i64 0)).setCell ⟨g9, 2, none⟩ (.int .i64 0)) = D7 at *
        refine wpAnyH_done (by kernel_rfl) ?_ _
        go_wp2_with fail
        go_meet
        exact ⟨g7, g9, rfl, rfl, rfl, X.out, G.out, kb7⟩
    · go_simp
      refine hK.out _ _ (kb0.trans ((below1 D0 (.cells #[.bool false, .int .i64 0, .int .i64 0] 40)).mono kb0.size)) (fun hHeld => ?_)
      clear hK K
      try simp only [Act.put, List.setIfInBounds_toArray, List.set_cons_zero, List.set_cons_succ]
      have bj := below1 D0 (.cells #[.bool false, .int .i64 0, .int .i64 0] 40)
      have kb1 := kb0.trans (bj.mono kb0.size)
      have G := hide_ (AB.at0 D0 40 [.bool false, .int .i64 0, .int .i64 0])
      have lG : w1.heap.size ≤ D0.heap.size := kb0.size
      clear bj
      generalize D0.alloc (.cells #[.bool false, .int .i64 0, .int .i64 0] 40) = D1 at *
      generalize D0.heap.size = g9 at *
      refine wpAnyH_ready (rs := [1, 13]) (by kernel_rfl) (by simp) ?_
      refine AllReadyH.cons rfl (fun K hK => ?_) (AllReadyH.cons rfl (fun K hK => ?_) (AllReadyH.nil))
      · go_simp
        refine (qc.out _ kb1).mono ?_
        rintro e D2 ⟨rc, rfl, own, bj⟩
        refine hK.out _ _ (kb1.trans (bj.mono kb1.size)) (fun hHeld => ?_)
        clear hK K
        try simp only [Act.put, List.setIfInBounds_toArray, List.set_cons_zero, List.set_cons_succ]
        have kb2 := kb1.trans (bj.mono kb1.size)
        have lB : w1.heap.size ≤ D1.heap.size := kb1.size
        replace own := hide_ own
        have lC : D1.heap.size ≤ D2.heap.size := bj.size
        have nG : Hid (∀ k, rc.ownBlock = some k → k ≠ g9) := hide_ (fun k e => by have h1 := (own.out.lt k e).1; have h2 := G.out.lt; omega)
        replace G := hide_ (G.out.later bj)
        clear bj
        generalize D1.heap.size = bs at *
        refine wpAnyH_ready (rs := [7, 13]) (by kernel_rfl) (by simp) ?_
        refine AllReadyH.cons rfl (fun K hK => ?_) (AllReadyH.cons rfl (fun K hK => ?_) (AllReadyH.nil))
        · refine step_append_ownB rfl (.tmp 24) (.tmp 29) 29 rfl bs 5 i0 Try.underlying29 HI.out.1 HI.out.2.1 HI.out.2.2.1 HI.out.2.2.2 rc L.length (u8s L) (by first | rfl | simp [Act.eval, Act.put]) own.out (.slice ao n8 cap) (l.take n8) (by first | rfl | simp [Act.eval, Act.put]) (S3.out.later kb2) H63.out lC ?_
          intro va D3 own2 hg
          refine hK.out _ _ (kb2.trans (below_grown hg w1.heap.size kb2.size (fun k e => Nat.le_trans lB (own.out.lt k e).1))) (fun hHeld => ?_)
          clear hK K
          try simp only [Act.put, List.setIfInBounds_toArray, List.set_cons_zero, List.set_cons_succ]
          have kb3 := kb2.trans (below_grown hg w1.heap.size kb2.size (fun k e => Nat.le_trans lB (own.out.lt k e).1))
          replace G := hide_ (ab_grown G.out hg nG.out)
          have hA := hide_ (bytes_app own2 IB.out IT.out)
          clear own2 hg own
          clear nG
          refine wpAnyH_ready (rs := [8, 13]) (by kernel_rfl) (by simp) ?_
          refine AllReadyH.cons rfl (fun K hK => ?_) (AllReadyH.cons rfl (fun K hK => ?_) (AllReadyH.nil))
          · go_simp
            refine (qd1.out _ _ hA.out).mono ?_
            rintro e D4 ⟨rfl, bj⟩
            refine hK.out _ _ (kb3.trans (bj.mono kb3.size)) (fun hHeld => ?_)
            clear hK K
            try simp only [Act.put, List.setIfInBounds_toArray, List.set_cons_zero, List.set_cons_succ]
            have kb4 := kb3.trans (bj.mono kb3.size)
            replace G := hide_ (G.out.later bj)
            clear bj hA
            refine takeR (i := 9) (v := ?_) rfl (by kernel_rfl) (by kernel_rfl) (by kernel_rfl) (some 22) rfl (Or.inl ⟨by rfl, ?_⟩) (fun _ _ _ h => h) (by assumption) ?_
            rotate_left
            · intro w hSw; (try dsimp only at hSw); go_simp; (try with_reducible rfl)
            simp only [Act.put, List.setIfInBounds_toArray, List.set_cons_zero, List.set_cons_succ]
            refine takeR (i := 10) (v := ?_) rfl (by kernel_rfl) (by kernel_rfl) (by kernel_rfl) (some 32) rfl (Or.inl ⟨by rfl, ?_⟩) (fun _ _ _ h => h) (by assumption) ?_
            rotate_left
            · intro w hSw; (try dsimp only at hSw); go_simp; (try with_reducible rfl)
            simp only [Act.put, List.setIfInBounds_toArray, List.set_cons_zero, List.set_cons_succ]
            refine takeR (i := 11) (v := ?_) rfl (by kernel_rfl) (by kernel_rfl) (by kernel_rfl) (some 33) rfl (Or.inl ⟨by rfl, ?_⟩) (fun _ _ _ h => h) (by assumption) ?_
            rotate_left
            · intro w hSw; (try dsimp only at hSw); go_simp; (try with_reducible rfl)
            simp only [Act.put, List.setIfInBounds_toArray, List.set_cons_zero, List.set_cons_succ]
            refine takeR (i := 12) (v := ?_) rfl (by kernel_rfl) (by kernel_rfl) (by kernel_rfl) (some 34) rfl (Or.inl ⟨by rfl, ?_⟩) (fun _ _ _ h => h) (by assumption) ?_
            rotate_left
            · intro w hSw; (try dsimp only at hSw); go_simp; (try with_reducible rfl)
            simp only [Act.put, List.setIfInBounds_toArray, List.set_cons_zero, List.set_cons_succ]
            refine wpAnyH_ready (rs := [13]) (by kernel_rfl) (by simp) ?_
            refine AllReadyH.cons rfl (fun K hK => ?_) (AllReadyH.nil)
            go_simp
            refine hK.out _ _ (kb4.trans ((below1 D4 (.cells #[.int .i64 0, .int .i64 0, .int .i64 0, .int .i64 0, .int .i64 0, .int .i64 0, .bool false, .int .u64 0, .int .u64 0, .int .u64 0, .int .u64 0] 28)).mono kb4.size)) (fun hHeld => ?_)
            clear hK K
            try simp only [Act.put, List.setIfInBounds_toArray, List.set_cons_zero, List.set_cons_succ]
            have ho := G.out.lt
            have bj := below1 D4 (.cells #[.int .i64 0, .int .i64 0, .int .i64 0, .int .i64 0, .int .i64 0, .int .i64 0, .bool false, .int .u64 0, .int .u64 0, .int .u64 0, .int .u64 0] 28)
            have kb5 := kb4.trans (bj.mono kb4.size)
            replace G := hide_ (G.out.later bj)
            have X := hide_ (AB.at0 D4 28 [.int .i64 0, .int .i64 0, .int .i64 0, .int .i64 0, .int .i64 0, .int .i64 0, .bool false, .int .u64 0, .int .u64 0, .int .u64 0, .int .u64 0])
            have lX : w1.heap.size ≤ D4.heap.size := kb4.size
            have nXG : D4.heap.size ≠ g9 := by omega
            clear ho
            clear bj
            generalize D4.alloc (.cells #[.int .i64 0, .int .i64 0, .int .i64 0, .int .i64 0, .int .i64 0, .int .i64 0, .bool false, .int .u64 0, .int .u64 0, .int .u64 0, .int .u64 0] 28) = D5 at *
            generalize D4.heap.size = g7 at *
            refine wpAnyH_ready (rs := [15]) (by kernel_rfl) (by simp) ?_
            refine AllReadyH.cons rfl (fun K hK => ?_) (AllReadyH.nil)
            obtain ⟨z0, z1, z2, z3, z4, z5, z6, z7, z8, z9, z10, z11, z12, z13, z14, z15, z16, z17, z18, z19, z20, z21⟩ := X.out.eleven
            go_simp
            refine hK.out _ _ (below_set11 kb5 lX _ _ _ _ _ _ _ _ _ _ _) (fun hHeld => ?_)
            clear hK K
            try simp only [Act.put, List.setIfInBounds_toArray, List.set_cons_zero, List.set_cons_succ]
            clear z0 z1 z2 z3 z4 z5 z6 z7 z8 z9 z10 z11 z12 z13 z14 z15 z16 z17 z18 z19 z20 z21
            replace G := hide_ (G.out.far11 (h := g7) (Ne.symm nXG) (.int .i64 kA) (.int .i64 pA) (.int .i64 xA) (.int .i64 qA) (.int .i64 yA) (.int .i64 fA) (.bool mA) (.int .u64 (aA : Int)) (.int .u64 (bA : Int)) (.int .u64 (cA : Int)) (.int .u64 (dA : Int)))
            replace X := hide_ (X.out.set11 (.int .i64 kA) (.int .i64 pA) (.int .i64 xA) (.int .i64 qA) (.int .i64 yA) (.int .i64 fA) (.bool mA) (.int .u64 (aA : Int)) (.int .u64 (bA : Int)) (.int .u64 (cA : Int)) (.int .u64 (dA : Int)))
            have kb6 := below_set11 (g := g7) kb5 lX (.int .i64 kA) (.int .i64 pA) (.int .i64 xA) (.int .i64 qA) (.int .i64 yA) (.int .i64 fA) (.bool mA) (.int .u64 (aA : Int)) (.int .u64 (bA : Int)) (.int .u64 (cA : Int)) (.int .u64 (dA : Int))
            generalize (((((((((((D5.setCell ⟨g7, 0, none⟩ (.int .i64 kA)).setCell ⟨g7, 1, none⟩ (.int .i64 pA)).setCell ⟨g7, 2, none⟩ (.int .i64 xA)).setCell ⟨g7, 3, none⟩ (.int .i64 qA)).setCell ⟨g7, 4, none⟩ (.int .i64 yA)).setCell ⟨g7, 5, none⟩ (.int .i64 fA)).setCell ⟨g7, 6, none⟩ (.bool mA)).setCell ⟨g7, 7, none⟩ (.int .u64 (aA : Int))).setCell ⟨g7, 8, none⟩ (.int .u64 (bA : Int))).setCell ⟨g7, 9, none⟩ (.int .u64 (cA : Int))).setCell ⟨g7, 10, none⟩ (.int .u64 (dA : Int))) = D6 at *
            refine takeR (i := 16) (v := ?_) rfl (by kernel_rfl) (by kernel_rfl) (by kernel_rfl) (some 8) rfl (Or.inl ⟨by rfl, ?_⟩) (fun _ _ _ h => h) (by assumption) ?_
            rotate_left
            · intro w hSw; (try dsimp only at hSw); go_simp; (try with_reducible rfl)
            simp only [Act.put, List.setIfInBounds_toArray, List.set_cons_zero, List.set_cons_succ]
            refine wpAnyH_ready (rs := [17]) (by kernel_rfl) (by simp) ?_
            refine AllReadyH.cons rfl (fun K hK => ?_) (AllReadyH.nil)
            obtain ⟨z0, z1, z2, z3, z4, z5⟩ := G.out.three
            go_simp
            refine hK.out _ _ (below_set3 kb6 lG _ _ _) (fun hHeld => ?_)
            clear hK K
            try simp only [Act.put, List.setIfInBounds_toArray, List.set_cons_zero, List.set_cons_succ]
            clear z0 z1 z2 z3 z4 z5
            replace X := hide_ (X.out.far3 (h := g9) nXG (.bool false) (.int .i64 0) (.int .i64 0))
            replace G := hide_ (G.out.set3 (.bool false) (.int .i64 0) (.int .i64 0))
            have kb7 := below_set3 (g := g9) kb6 lG (.bool false) (.int .i64 0) (.int .i64 0)
            generalize (((D6.setCell ⟨g9, 0, none⟩ (.bool false)).setCell ⟨g9, 1, none⟩ (.int .i64 0)).setCell ⟨g9, 2, none⟩ (.int .i64 0)) = D7 at *
            refine wpAnyH_done (by kernel_rfl) ?_ _
            go_wp2_with fail
            go_meet
            exact ⟨g7, g9, rfl, rfl, rfl, X.out, G.out, kb7⟩
          · go_simp
            refine hK.out _ _ (kb3.trans ((below1 D3 (.cells #[.int .i64 0, .int .i64 0, .int .i64 0, .int .i64 0, .int .i64 0, .int .i64 0, .bool false, .int .u64 0, .int .u64 0, .int .u64 0, .int .u64 0] 28)).mono kb3.size)) (fun hHeld => ?_)
            clear hK K
            try simp only [Act.put, List.setIfInBounds_toArray, List.set_cons_zero, List.set_cons_succ]
            have ho := G.out.lt
            have bj := below1 D3 (.cells #[.int .i64 0, .int .i64 0, .int .i64 0, .int .i64 0, .int .i64 0, .int .i64 0, .bool false, .int .u64 0, .int .u64 0, .int .u64 0, .int .u64 0] 28)
            have kb4 := kb3.trans (bj.mono kb3.size)
            replace G := hide_ (G.out.later bj)
            replace hA := hide_ (hA.out.later bj)
            have X := hide_ (AB.at0 D3 28 [.int .i64 0, .int .i64 0, .int .i64 0, .int .i64 0, .int .i64 0, .int .i64 0, .bool false, .int .u64 0, .int .u64 0, .int .u64 0, .int .u64 0])
            have lX : w1.heap.size ≤ D3.heap.size := kb3.size
            have nXG : D3.heap.size ≠ g9 := by omega
            clear ho
            clear bj
            generalize D3.alloc (.cells #[.int .i64 0, .int .i64 0, .int .i64 0, .int .i64 0, .int .i64 0, .int .i64 0, .bool false, .int .u64 0, .int .u64 0, .int .u64 0, .int .u64 0] 28) = D4 at *
            generalize D3.heap.size = g7 at *
            refine wpAnyH_ready (rs := [8]) (by kernel_rfl) (by simp) ?_
            refine AllReadyH.cons rfl (fun K hK => ?_) (AllReadyH.nil)
            go_simp
            refine (qd1.out _ _ hA.out).mono ?_
            rintro e D5 ⟨rfl, bj⟩
            refine hK.out _ _ (kb4.trans (bj.mono kb4.size)) (fun hHeld => ?_)
            clear hK K
            try simp only [Act.put, List.setIfInBounds_toArray, List.set_cons_zero, List.set_cons_succ]
            have kb5 := kb4.trans (bj.mono kb4.size)
            replace X := hide_ (X.out.later bj)
            replace G := hide_ (G.out.later bj)
            clear bj hA
            refine takeR (i := 9) (v := ?_) rfl (by kernel_rfl) (by kernel_rfl) (by kernel_rfl) (some 22) rfl (Or.inl ⟨by rfl, ?_⟩) (fun _ _ _ h => h) (by assumption) ?_
            rotate_left
            · intro w hSw; (try dsimp only at hSw); go_simp; (try with_reducible rfl)
            simp only [Act.put, List.setIfInBounds_toArray, List.set_cons_zero, List.set_cons_succ]
            refine takeR (i := 10) (v := ?_) rfl (by kernel_rfl) (by kernel_rfl) (by kernel_rfl) (some 32) rfl (Or.inl ⟨by rfl, ?_⟩) (fun _ _ _ h => h) (by assumption) ?_
            rotate_left
            · intro w hSw; (try dsimp only at hSw); go_simp; (try with_reducible rfl)
            simp only [Act.put, List.setIfInBounds_toArray, List.set_cons_zero, List.set_cons_succ]
            refine takeR (i := 11) (v := ?_) rfl (by kernel_rfl) (by kernel_rfl) (by kernel_rfl) (some 33) rfl (Or.inl ⟨by rfl, ?_⟩) (fun _ _ _ h => h) (by assumption) ?_
            rotate_left
            · intro w hSw; (try dsimp only at hSw); go_simp; (try with_reducible rfl)
            simp only [Act.put, List.setIfInBounds_toArray, List.set_cons_zero, List.set_cons_succ]
            refine takeR (i := 12) (v := ?_) rfl (by kernel_rfl) (by kernel_rfl) (by kernel_rfl) (some 34) rfl (Or.inl ⟨by rfl, ?_⟩) (fun _ _ _ h => h) (by assumption) ?_
            rotate_left
            · intro w hSw; (try dsimp only at hSw); go_simp; (try with_reducible rfl)
            simp only [Act.put, List.setIfInBounds_toArray, List.set_cons_zero, List.set_cons_succ]
            refine wpAnyH_ready (rs := [15]) (by kernel_rfl) (by simp) ?_
            refine AllReadyH.cons rfl (fun K hK => ?_) (AllReadyH.nil)
            obtain ⟨z0, z1, z2, z3, z4, z5, z6, z7, z8, z9, z10, z11, z12, z13, z14, z15, z16, z17, z18, z19, z20, z21⟩ := X.out.eleven
            go_simp
            refine hK.out _ _ (below_set11 kb5 lX _ _ _ _ _ _ _ _ _ _ _) (fun hHeld => ?_)
            clear hK K
            try simp only [Act.put, List.setIfInBounds_toArray, List.set_cons_zero, List.set_cons_succ]
            clear z0 z1 z2 z3 z4 z5 z6 z7 z8 z9 z10 z11 z12 z13 z14 z15 z16 z17 z18 z19 z20 z21
            replace G := hide_ (G.out.far11 (h := g7) (Ne.symm nXG) (.int .i64 kA) (.int .i64 pA) (.int .i64 xA) (.int .i64 qA) (.int .i64 yA) (.int .i64 fA) (.bool mA) (.int .u64 (aA : Int)) (.int .u64 (bA : Int)) (.int .u64 (cA : Int)) (.int .u64 (dA : Int)))
            replace X := hide_ (X.out.set11 (.int .i64 kA) (.int .i64 pA) (.int .i64 xA) (.int .i64 qA) (.int .i64 yA) (.int .i64 fA) (.bool mA) (.int .u64 (aA : Int)) (.int .u64 (bA : Int)) (.int .u64 (cA : Int)) (.int .u64 (dA : Int)))
            have kb6 := below_set11 (g := g7) kb5 lX (.int .i64 kA) (.int .i64 pA) (.int .i64 xA) (.int .i64 qA) (.int .i64 yA) (.int .i64 fA) (.bool mA) (.int .u64 (aA : Int)) (.int .u64 (bA : Int)) (.int .u64 (cA : Int)) (.int .u64 (dA : Int))
            generalize (((((((((((D5.setCell ⟨g7, 0, none⟩ (.int .i64 kA)).setCell ⟨g7, 1, none⟩ (.int .i64 pA)).setCell ⟨g7, 2, none⟩ (.int .i64 xA)).setCell ⟨g7, 3, none⟩ (.int .i64 qA)).setCell ⟨g7, 4, none⟩ (.int .i64 yA)).setCell ⟨g7, 5, none⟩ (.int .i64 fA)).setCell ⟨g7, 6, none⟩ (.bool mA)).setCell ⟨g7, 7, none⟩ (.int .u64 (aA : Int))).setCell ⟨g7, 8, none⟩ (.int .u64 (bA : Int))).setCell ⟨g7, 9, none⟩ (.int .u64 (cA : Int))).setCell ⟨g7, 10, none⟩ (.int .u64 (dA : Int))) = D6 at *
            refine takeR (i := 16) (v := ?_) rfl (by kernel_rfl) (by kernel_rfl) (by kernel_rfl) (some 8) rfl (Or.inl ⟨by rfl, ?_⟩) (fun _ _ _ h => h) (by assumption) ?_
            rotate_left
            · intro w hSw; (try dsimp only at hSw); go_simp; (try with_reducible rfl)
            simp only [Act.put, List.setIfInBounds_toArray, List.set_cons_zero, List.set_cons_succ]
            refine wpAnyH_ready (rs := [17]) (by kernel_rfl) (by simp) ?_
            refine AllReadyH.cons rfl (fun K hK => ?_) (AllReadyH.nil)
            obtain ⟨z0, z1, z2, z3, z4, z5⟩ := G.out.three
            go_simp
            refine hK.out _ _ (below_set3 kb6 lG _ _ _) (fun hHeld => ?_)
            clear hK K
            try simp only [Act.put, List.setIfInBounds_toArray, List.set_cons_zero, List.set_cons_succ]
            clear z0 z1 z2 z3 z4 z5
            replace X := hide_ (X.out.far3 (h := g9) nXG (.bool false) (.int .i64 0) (.int .i64 0))
            replace G := hide_ (G.out.set3 (.bool false) (.int .i64 0) (.int .i64 0))
            have kb7 := below_set3 (g := g9) kb6 lG (.bool false) (.int .i64 0) (.int .i64 0)
            generalize (((D6.setCell ⟨g9, 0, none⟩ (.bool false)).setCell ⟨g9, 1, none⟩ (.int .i64 0)).setCell ⟨g9, 2, none⟩ (.int .i64 0)) = D7 at *
            refine wpAnyH_done (by kernel_rfl) ?_ _
            go_wp2_with fail
            go_meet
            exact ⟨g7, g9, rfl, rfl, rfl, X.out, G.out, kb7⟩
        · go_simp
          refine hK.out _ _ (kb2.trans ((below1 D2 (.cells #[.int .i64 0, .int .i64 0, .int .i64 0, .int .i64 0, .int .i64 0, .int .i64 0, .bool false, .int .u64 0, .int .u64 0, .int .u64 0, .int .u64 0] 28)).mono kb2.size)) (fun hHeld => ?_)
          clear hK K
          try simp only [Act.put, List.setIfInBounds_toArray, List.set_cons_zero, List.set_cons_succ]
          have ho := G.out.lt
          have bj := below1 D2 (.cells #[.int .i64 0, .int .i64 0, .int .i64 0, .int .i64 0, .int .i64 0, .int .i64 0, .bool false, .int .u64 0, .int .u64 0, .int .u64 0, .int .u64 0] 28)
          have kb3 := kb2.trans (bj.mono kb2.size)
          replace G := hide_ (G.out.later bj)
          have nX : Hid (∀ k, rc.ownBlock = some k → k ≠ D2.heap.size) := hide_ (fun k e => Nat.ne_of_lt (own.out.lt k e).2)
          replace own := hide_ (own.out.alloc (.cells #[.int .i64 0, .int .i64 0, .int .i64 0, .int .i64 0, .int .i64 0, .int .i64 0, .bool false, .int .u64 0, .int .u64 0, .int .u64 0, .int .u64 0] 28))
          replace lC := Nat.le_trans lC bj.size
          have X := hide_ (AB.at0 D2 28 [.int .i64 0, .int .i64 0, .int .i64 0, .int .i64 0, .int .i64 0, .int .i64 0, .bool false, .int .u64 0, .int .u64 0, .int .u64 0, .int .u64 0])
          have lX : w1.heap.size ≤ D2.heap.size := kb2.size
          have nXG : D2.heap.size ≠ g9 := by omega
          clear ho
          clear bj
          generalize D2.alloc (.cells #[.int .i64 0, .int .i64 0, .int .i64 0, .int .i64 0, .int .i64 0, .int .i64 0, .bool false, .int .u64 0, .int .u64 0, .int .u64 0, .int .u64 0] 28) = D3 at *
          generalize D2.heap.size = g7 at *
          refine wpAnyH_ready (rs := [7]) (by kernel_rfl) (by simp) ?_
          refine AllReadyH.cons rfl (fun K hK => ?_) (AllReadyH.nil)
          refine step_append_ownB rfl (.tmp 24) (.tmp 29) 29 rfl bs 5 i0 Try.underlying29 HI.out.1 HI.out.2.1 HI.out.2.2.1 HI.out.2.2.2 rc L.length (u8s L) (by first | rfl | simp [Act.eval, Act.put]) own.out (.slice ao n8 cap) (l.take n8) (by first | rfl | simp [Act.eval, Act.put]) (S3.out.later kb3) H63.out lC ?_
          intro va D4 own2 hg
          refine hK.out _ _ (kb3.trans (below_grown hg w1.heap.size kb3.size (fun k e => Nat.le_trans lB (own.out.lt k e).1))) (fun hHeld => ?_)
          clear hK K
          try simp only [Act.put, List.setIfInBounds_toArray, List.set_cons_zero, List.set_cons_succ]
          have kb4 := kb3.trans (below_grown hg w1.heap.size kb3.size (fun k e => Nat.le_trans lB (own.out.lt k e).1))
          replace X := hide_ (ab_grown X.out hg nX.out)
          replace G := hide_ (ab_grown G.out hg nG.out)
          have hA := hide_ (bytes_app own2 IB.out IT.out)
          clear own2 hg own
          clear nX
          clear nG
          refine wpAnyH_ready (rs := [8]) (by kernel_rfl) (by simp) ?_
          refine AllReadyH.cons rfl (fun K hK => ?_) (AllReadyH.nil)
          go_simp
          refine (qd1.out _ _ hA.out).mono ?_
          rintro e D5 ⟨rfl, bj⟩
          refine hK.out _ _ (kb4.trans (bj.mono kb4.size)) (fun hHeld => ?_)
          clear hK K
          try simp only [Act.put, List.setIfInBounds_toArray, List.set_cons_zero, List.set_cons_succ]
          have kb5 := kb4.trans (bj.mono kb4.size)
          replace X := hide_ (X.out.later bj)
          replace G := hide_ (G.out.later bj)
          clear bj hA
          refine takeR (i := 9) (v := ?_) rfl (by kernel_rfl) (by kernel_rfl) (by kernel_rfl) (some 22) rfl (Or.inl ⟨by rfl, ?_⟩) (fun _ _ _ h => h) (by assumption) ?_
          rotate_left
          · intro w hSw; (try dsimp only at hSw); go_simp; (try with_reducible rfl)
          simp only [Act.put, List.setIfInBounds_toArray, List.set_cons_zero, List.set_cons_succ]
          refine takeR (i := 10) (v := ?_) rfl (by kernel_rfl) (by kernel_rfl) (by kernel_rfl) (some 32) rfl (Or.inl ⟨by rfl, ?_⟩) (fun _ _ _ h => h) (by assumption) ?_
          rotate_left
          · intro w hSw; (try dsimp only at hSw); go_simp; (try with_reducible rfl)
          simp only [Act.put, List.setIfInBounds_toArray, List.set_cons_zero, List.set_cons_succ]
          refine takeR (i := 11) (v := ?_) rfl (by kernel_rfl) (by kernel_rfl) (by kernel_rfl) (some 33) rfl (Or.inl ⟨by rfl, ?_⟩) (fun _ _ _ h => h) (by assumption) ?_
          rotate_left
          · intro w hSw; (try dsimp only at hSw); go_simp; (try with_reducible rfl)
          simp only [Act.put, List.setIfInBounds_toArray, List.set_cons_zero, List.set_cons_succ]
          refine takeR (i := 12) (v := ?_) rfl (by kernel_rfl) (by kernel_rfl) (by kernel_rfl) (some 34) rfl (Or.inl ⟨by rfl, ?_⟩) (fun _ _ _ h => h) (by assumption) ?_
          rotate_left
          · intro w hSw; (try dsimp only at hSw); go_simp; (try with_reducible rfl)
          simp only [Act.put, List.setIfInBounds_toArray, List.set_cons_zero, List.set_cons_succ]
          refine wpAnyH_ready (rs := [15]) (by kernel_rfl) (by simp) ?_
          refine AllReadyH.cons rfl (fun K hK => ?_) (AllReadyH.nil)
          obtain ⟨z0, z1, z2, z3, z4, z5, z6, z7, z8, z9, z10, z11, z12, z13, z14, z15, z16, z17, z18, z19, z20, z21⟩ := X.out.eleven
          go_simp
          refine hK.out _ _ (below_set11 kb5 lX _ _ _ _ _ _ _ _ _ _ _) (fun hHeld => ?_)
          clear hK K
          try simp only [Act.put, List.setIfInBounds_toArray, List.set_cons_zero, List.set_cons_succ]
          clear z0 z1 z2 z3 z4 z5 z6 z7 z8 z9 z10 z11 z12 z13 z14 z15 z16 z17 z18 z19 z20 z21
          replace G := hide_ (G.out.far11 (h := g7) (Ne.symm nXG) (.int .i64 kA) (.int .i64 pA) (.int .i64 xA) (.int .i64 qA) (.int .i64 yA) (.int .i64 fA) (.bool mA) (.int .u64 (aA : Int)) (.int .u64 (bA : Int)) (.int .u64 (cA : Int)) (.int .u64 (dA : Int)))
          replace X := hide_ (X.out.set11 (.int .i64 kA) (.int .i64 pA) (.int .i64 xA) (.int .i64 qA) (.int .i64 yA) (.int .i64 fA) (.bool mA) (.int .u64 (aA : Int)) (.int .u64 (bA : Int)) (.int .u64 (cA : Int)) (.int .u64 (dA : Int)))
          have kb6 := below_set11 (g := g7) kb5 lX (.int .i64 kA) (.int .i64 pA) (.int .i64 xA) (.int .i64 qA) (.int .i64 yA) (.int .i64 fA) (.bool mA) (.int .u64 (aA : Int)) (.int .u64 (bA : Int)) (.int .u64 (cA : Int)) (.int .u64 (dA : Int))
          generalize (((((((((((D5.setCell ⟨g7, 0, none⟩ (.int .i64 kA)).setCell ⟨g7, 1, none⟩ (.int .i64 pA)).setCell ⟨g7, 2, none⟩ (.int .i64 xA)).setCell ⟨g7, 3, none⟩ (.int .i64 qA)).setCell ⟨g7, 4, none⟩ (.int .i64 yA)).setCell ⟨g7, 5, none⟩ (.int .i64 fA)).setCell ⟨g7, 6, none⟩ (.bool mA)).setCell ⟨g7, 7, none⟩ (.int .u64 (aA : Int))).setCell ⟨g7, 8, none⟩ (.int .u64 (bA : Int))).setCell ⟨g7, 9, none⟩ (.int .u64 (cA : Int))).setCell ⟨g7, 10, none⟩ (.int .u64 (dA : Int))) = D6 at *
          refine takeR (i := 16) (v := ?_) rfl (by kernel_rfl) (by kernel_rfl) (by kernel_rfl) (some 8) rfl (Or.inl ⟨by rfl, ?_⟩) (fun _ _ _ h => h) (by assumption) ?_
          rotate_left
          · intro w hSw; (try dsimp only at hSw); go_simp; (try with_reducible rfl)
          simp only [Act.put, List.setIfInBounds_toArray, List.set_cons_zero, List.set_cons_succ]
          refine wpAnyH_ready (rs := [17]) (by kernel_rfl) (by simp) ?_
          refine AllReadyH.cons rfl (fun K hK => ?_) (AllReadyH.nil)
          obtain ⟨z0, z1, z2, z3, z4, z5⟩ := G.out.three
          go_simp
          refine hK.out _ _ (below_set3 kb6 lG _ _ _) (fun hHeld => ?_)
          clear hK K
          try simp only [Act.put, List.setIfInBounds_toArray, List.set_cons_zero, List.set_cons_succ]
          clear z0 z1 z2 z3 z4 z5
          replace X := hide_ (X.out.far3 (h := g9) nXG (.bool false) (.int .i64 0) (.int .i64 0))
          replace G := hide_ (G.out.set3 (.bool false) (.int .i64 0) (.int .i64 0))
          have kb7 := below_set3 (g := g9) kb6 lG (.bool false) (.int .i64 0) (.int .i64 0)
          generalize (((D6.setCell ⟨g9, 0, none⟩ (.bool false)).setCell ⟨g9, 1, none⟩ (.int .i64 0)).setCell ⟨g9, 2, none⟩ (.int .i64 0)) = D7 at *
          refine wpAnyH_done (by kernel_rfl) ?_ _
          go_wp2_with fail
          go_meet
          exact ⟨g7, g9, rfl, rfl, rfl, X.out, G.out, kb7⟩
      · go_simp
        refine hK.out _ _ (kb1.trans ((below1 D1 (.cells #[.int .i64 0, .int .i64 0, .int .i64 0, .int .i64 0, .int .i64 0, .int .i64 0, .bool false, .int .u64 0, .int .u64 0, .int .u64 0, .int .u64 0] 28)).mono kb1.size)) (fun hHeld => ?_)
        clear hK K
        try simp only [Act.put, List.setIfInBounds_toArray, List.set_cons_zero, List.set_cons_succ]
        have ho := G.out.lt
        have bj := below1 D1 (.cells #[.int .i64 0, .int .i64 0, .int .i64 0, .int .i64 0, .int .i64 0, .int .i64 0, .bool false, .int .u64 0, .int .u64 0, .int .u64 0, .int .u64 0] 28)
        have kb2 := kb1.trans (bj.mono kb1.size)
        replace G := hide_ (G.out.later bj)
        have X := hide_ (AB.at0 D1 28 [.int .i64 0, .int .i64 0, .int .i64 0, .int .i64 0, .int .i64 0, .int .i64 0, .bool false, .int .u64 0, .int .u64 0, .int .u64 0, .int .u64 0])
        have lX : w1.heap.size ≤ D1.heap.size := kb1.size
        have nXG : D1.heap.size ≠ g9 := by omega
        clear ho
        clear bj
        generalize D1.alloc (.cells #[.int .i64 0, .int .i64 0, .int .i64 0, .int .i64 0, .int .i64 0, .int .i64 0, .bool false, .int .u64 0, .int .u64 0, .int .u64 0, .int .u64 0] 28) = D2 at *
        generalize D1.heap.size = g7 at *
        refine wpAnyH_ready (rs := [1]) (by kernel_rfl) (by simp) ?_
        refine AllReadyH.cons rfl (fun K hK => ?_) (AllReadyH.nil)
        go_simp
        refine (qc.out _ kb2).mono ?_
        rintro e D3 ⟨rc, rfl, own, bj⟩
        refine hK.out _ _ (kb2.trans (bj.mono kb2.size)) (fun hHeld => ?_)
        clear hK K
        try simp only [Act.put, List.setIfInBounds_toArray, List.set_cons_zero, List.set_cons_succ]
        have kb3 := kb2.trans (bj.mono kb2.size)
        have lB : w1.heap.size ≤ D2.heap.size := kb2.size
        replace own := hide_ own
        have lC : D2.heap.size ≤ D3.heap.size := bj.size
        have nX : Hid (∀ k, rc.ownBlock = some k → k ≠ g7) := hide_ (fun k e => by have h1 := (own.out.lt k e).1; have h2 := X.out.lt; omega)
        have nG : Hid (∀ k, rc.ownBlock = some k → k ≠ g9) := hide_ (fun k e => by have h1 := (own.out.lt k e).1; have h2 := G.out.lt; omega)
        replace X := hide_ (X.out.later bj)
        replace G := hide_ (G.out.later bj)
        clear bj
        generalize D2.heap.size = bs at *
        refine wpAnyH_ready (rs := [7]) (by kernel_rfl) (by simp) ?_
        refine AllReadyH.cons rfl (fun K hK => ?_) (AllReadyH.nil)
        refine step_append_ownB rfl (.tmp 24) (.tmp 29) 29 rfl bs 5 i0 Try.underlying29 HI.out.1 HI.out.2.1 HI.out.2.2.1 HI.out.2.2.2 rc L.length (u8s L) (by first | rfl | simp [Act.eval, Act.put]) own.out (.slice ao n8 cap) (l.take n8) (by first | rfl | simp [Act.eval, Act.put]) (S3.out.later kb3) H63.out lC ?_
        intro va D4 own2 hg
        refine hK.out _ _ (kb3.trans (below_grown hg w1.heap.size kb3.size (fun k e => Nat.le_trans lB (own.out.lt k e).1))) (fun hHeld => ?_)
        clear hK K
        try simp only [Act.put, List.setIfInBounds_toArray, List.set_cons_zero, List.set_cons_succ]
        have kb4 := kb3.trans (below_grown hg w1.heap.size kb3.size (fun k e => Nat.le_trans lB (own.out.lt k e).1))
        replace X := hide_ (ab_grown X.out hg nX.out)
        replace G := hide_ (ab_grown G.out hg nG.out)
        have hA := hide_ (bytes_app own2 IB.out IT.out)
        clear own2 hg own
        clear nX
        clear nG
        refine wpAnyH_ready (rs := [8]) (by kernel_rfl) (by simp) ?_
        refine AllReadyH.cons rfl (fun K hK => ?_) (AllReadyH.nil)
        go_simp
        refine (qd1.out _ _ hA.out).mono ?_
        rintro e D5 ⟨rfl, bj⟩
        refine hK.out _ _ (kb4.trans (bj.mono kb4.size)) (fun hHeld => ?_)
        clear hK K
        try simp only [Act.put, List.setIfInBounds_toArray, List.set_cons_zero, List.set_cons_succ]
        have kb5 := kb4.trans (bj.mono kb4.size)
        replace X := hide_ (X.out.later bj)
        replace G := hide_ (G.out.later bj)
        clear bj hA
        refine takeR (i := 9) (v := ?_) rfl (by kernel_rfl) (by kernel_rfl) (by kernel_rfl) (some 22) rfl (Or.inl ⟨by rfl, ?_⟩) (fun _ _ _ h => h) (by assumption) ?_
        rotate_left
        · intro w hSw; (try dsimp only at hSw); go_simp; (try with_reducible rfl)
        simp only [Act.put, List.setIfInBounds_toArray, List.set_cons_zero, List.set_cons_succ]
        refine takeR (i := 10) (v := ?_) rfl (by kernel_rfl) (by kernel_rfl) (by kernel_rfl) (some 32) rfl (Or.inl ⟨by rfl, ?_⟩) (fun _ _ _ h => h) (by assumption) ?_
        rotate_left
        · intro w hSw; (try dsimp only at hSw); go_simp; (try with_reducible rfl)
        simp only [Act.put, List.setIfInBounds_toArray, List.set_cons_zero, List.set_cons_succ]
        refine takeR (i := 11) (v := ?_) rfl (by kernel_rfl) (by kernel_rfl) (by kernel_rfl) (some 33) rfl (Or.inl ⟨by rfl, ?_⟩) (fun _ _ _ h => h) (by assumption) ?_
        rotate_left
        · intro w hSw; (try dsimp only at hSw); go_simp; (try with_reducible rfl)
        simp only [Act.put, List.setIfInBounds_toArray, List.set_cons_zero, List.set_cons_succ]
        refine takeR (i := 12) (v := ?_) rfl (by kernel_rfl) (by kernel_rfl) (by kernel_rfl) (some 34) rfl (Or.inl ⟨by rfl, ?_⟩) (fun _ _ _ h => h) (by assumption) ?_
        rotate_left
        · intro w hSw; (try dsimp only at hSw); go_simp; (try with_reducible rfl)
        simp only [Act.put, List.setIfInBounds_toArray, List.set_cons_zero, List.set_cons_succ]
        refine wpAnyH_ready (rs := [15]) (by kernel_rfl) (by simp) ?_
        refine AllReadyH.cons rfl (fun K hK => ?_) (AllReadyH.nil)
        obtain ⟨z0, z1, z2, z3, z4, z5, z6, z7, z8, z9, z10, z11, z12, z13, z14, z15, z16, z17, z18, z19, z20, z21⟩ := X.out.eleven
        go_simp
        refine hK.out _ _ (below_set11 kb5 lX _ _ _ _ _ _ _ _ _ _ _) (fun hHeld => ?_)
        clear hK K
        try simp only [Act.put, List.setIfInBounds_toArray, List.set_cons_zero, List.set_cons_succ]
        clear z0 z1 z2 z3 z4 z5 z6 z7 z8 z9 z10 z11 z12 z13 z14 z15 z16 z17 z18 z19 z20 z21
        replace G := hide_ (G.out.far11 (h := g7) (Ne.symm nXG) (.int .i64 kA) (.int .i64 pA) (.int .i64 xA) (.int .i64 qA) (.int .i64 yA) (.int .i64 fA) (.bool mA) (.int .u64 (aA : Int)) (.int .u64 (bA : Int)) (.int .u64 (cA : Int)) (.int .u64 (dA : Int)))
        replace X := hide_ (X.out.set11 (.int .i64 kA) (.int .i64 pA) (.int .i64 xA) (.int .i64 qA) (.int .i64 yA) (.int .i64 fA) (.bool mA) (.int .u64 (aA : Int)) (.int .u64 (bA : Int)) (.int .u64 (cA : Int)) (.int .u64 (dA : Int)))
        have kb6 := below_set11 (g := g7) kb5 lX (.int .i64 kA) (.int .i64 pA) (.int .i64 xA) (.int .i64 qA) (.int .i64 yA) (.int .i64 fA) (.bool mA) (.int .u64 (aA : Int)) (.int .u64 (bA : Int)) (.int .u64 (cA : Int)) (.int .u64 (dA : Int))
        generalize (((((((((((D5.setCell ⟨g7, 0, none⟩ (.int .i64 kA)).setCell ⟨g7, 1, none⟩ (.int .i64 pA)).setCell ⟨g7, 2, none⟩ (.int .i64 xA)).setCell ⟨g7, 3, none⟩ (.int .i64 qA)).setCell ⟨g7, 4, none⟩ (.int .i64 yA)).setCell ⟨g7, 5, none⟩ (.int .i64 fA)).setCell ⟨g7, 6, none⟩ (.bool mA)).setCell ⟨g7, 7, none⟩ (.int .u64 (aA : Int))).setCell ⟨g7, 8, none⟩ (.int .u64 (bA : Int))).setCell ⟨g7, 9, none⟩ (.int .u64 (cA : Int))).setCell ⟨g7, 10, none⟩ (.int .u64 (dA : Int))) = D6 at *
        refine takeR (i := 16) (v := ?_) rfl (by kernel_rfl) (by kernel_rfl) (by kernel_rfl) (some 8) rfl (Or.inl ⟨by rfl, ?_⟩) (fun _ _ _ h => h) (by assumption) ?_
        rotate_left
        · intro w hSw; (try dsimp only at hSw); go_simp; (try with_reducible rfl)
        simp only [Act.put, List.setIfInBounds_toArray, List.set_cons_zero, List.set_cons_succ]
        refine wpAnyH_ready (rs := [17]) (by kernel_rfl) (by simp) ?_
        refine AllReadyH.cons rfl (fun K hK => ?_) (AllReadyH.nil)
        obtain ⟨z0, z1, z2, z3, z4, z5⟩ := G.out.three
        go_simp
        refine hK.out _ _ (below_set3 kb6 lG _ _ _) (fun hHeld => ?_)
        clear hK K
        try simp only [Act.put, List.setIfInBounds_toArray, List.set_cons_zero, List.set_cons_succ]
        clear z0 z1 z2 z3 z4 z5
        replace X := hide_ (X.out.far3 (h := g9) nXG (.bool false) (.int .i64 0) (.int .i64 0))
        replace G := hide_ (G.out.set3 (.bool false) (.int .i64 0) (.int .i64 0))
        have kb7 := below_set3 (g := g9) kb6 lG (.bool false) (.int .i64 0) (.int .i64 0)
        generalize (((D6.setCell ⟨g9, 0, none⟩ (.bool false)).setCell ⟨g9, 1, none⟩ (.int .i64 0)).setCell ⟨g9, 2, none⟩ (.int .i64 0)) = D7 at *
        refine wpAnyH_done (by kernel_rfl) ?_ _
        go_wp2_with fail
        go_meet
        exact ⟨g7, g9, rfl, rfl, rfl, X.out, G.out, kb7⟩
  case rest =>
    obtain ⟨g7, g9, rfl, rfl, rfl, X, G, kc⟩ := hcut
    have kk := b1.trans (kc.mono b1.size)
    have k1c := k1.trans (kc.mono k1.size)
    obtain ⟨pp0, pp1, pp2, pp3, pp4, pp5, pp6, pp7, pp8, pp9, pp10, -⟩ := (A0.out.later kk).eleven
    obtain ⟨rr0, rr1, rr2, rr3, rr4, rr5, rr6, rr7, rr8, rr9, rr10, -⟩ := X.eleven
    obtain ⟨vv0, vv1, vv2, -⟩ := G.three
    clear X G h1 qc S3 S30 qcl qd1 q1 ya0 ya1 ya2 ya3 ya4 ya5 ya6 ya7 ya8 ya9 ya10 s1 s2 gm HI IB IT H63 A0 B0 k1 kk kc
    rcases HQ.out with ⟨tt, cc, qd⟩ | ⟨kB, pB, xB, qB, yB, fB, mB, aB, bB, cB, dB, n, hn, qd, p2⟩
    · have qd := hide_ qd
      clear HQ HBh
      go_wp2_with (first | (go_at_call 16; refine (qd.out _ k1c).mono ?_; rintro e w2 ⟨rfl, bb2⟩; have k2 : Below w.heap.size w ((w2.alloc (.cells #[.int .i64 0, .int .i64 0, .int .i64 0, .int .i64 0, .int .i64 0, .int .i64 0, .bool false, .int .u64 0, .int .u64 0, .int .u64 0, .int .u64 0] 28)).alloc (.cells #[.bool true, .int .i64 tt, .int .i64 cc] 40)) := k1c.trans ((bb2.trans ((below2 w2 _ _).mono bb2.size)).mono k1c.size); obtain ⟨xx0, xx1, xx2, xx3, xx4, xx5, xx6, xx7, xx8, xx9, xx10, -⟩ := ((AB.at0 w2 28 [.int .i64 0, .int .i64 0, .int .i64 0, .int .i64 0, .int .i64 0, .int .i64 0, .bool false, .int .u64 0, .int .u64 0, .int .u64 0, .int .u64 0]).alloc (.cells #[.bool true, .int .i64 tt, .int .i64 cc] 40)).eleven; obtain ⟨gg0, gg1, gg2, -⟩ := (AB.at1 w2 (.cells #[.int .i64 0, .int .i64 0, .int .i64 0, .int .i64 0, .int .i64 0, .int .i64 0, .bool false, .int .u64 0, .int .u64 0, .int .u64 0, .int .u64 0] 28) 40 [.bool true, .int .i64 tt, .int .i64 cc]).three) | (go_at_call 15; refine (aw.out _).mono ?_; rintro e w3 ⟨rfl, b3⟩))
      go_ret
      exact ⟨rfl, k2.trans (b3.mono k2.size)⟩
    · have qd := hide_ qd
      have p2 := hide_ p2
      obtain ⟨t1, t2, t3⟩ := bytes_take HBh.out n hn
      have T3 := hide_ t3
      have gn : ((n : Nat) : Int) ≤ (l.length : Int) := by omega
      clear t3 hn HQ HBh
      go_wp2_with (first | (go_at_call 16; refine (qd.out _ k1c).mono ?_; rintro e w2 ⟨rfl, bb2⟩; have k2 : Below w.heap.size w ((w2.alloc (.cells #[.int .i64 kB, .int .i64 pB, .int .i64 xB, .int .i64 qB, .int .i64 yB, .int .i64 fB, .bool mB, .int .u64 (aB : Int), .int .u64 (bB : Int), .int .u64 (cB : Int), .int .u64 (dB : Int)] 28)).alloc (.cells #[.bool false, .int .i64 0, .int .i64 0] 40)) := k1c.trans ((bb2.trans ((below2 w2 _ _).mono bb2.size)).mono k1c.size); obtain ⟨xx0, xx1, xx2, xx3, xx4, xx5, xx6, xx7, xx8, xx9, xx10, -⟩ := ((AB.at0 w2 28 [.int .i64 kB, .int .i64 pB, .int .i64 xB, .int .i64 qB, .int .i64 yB, .int .i64 fB, .bool mB, .int .u64 (aB : Int), .int .u64 (bB : Int), .int .u64 (cB : Int), .int .u64 (dB : Int)]).alloc (.cells #[.bool false, .int .i64 0, .int .i64 0] 40)).eleven; obtain ⟨gg0, gg1, gg2, -⟩ := (AB.at1 w2 (.cells #[.int .i64 kB, .int .i64 pB, .int .i64 xB, .int .i64 qB, .int .i64 yB, .int .i64 fB, .bool mB, .int .u64 (aB : Int), .int .u64 (bB : Int), .int .u64 (cB : Int), .int .u64 (dB : Int)] 28) 40 [.bool false, .int .i64 0, .int .i64 0]).three) | (go_at_call_of 6 (Value.agg #[.int .i64 kB, .int .i64 pB, .int .i64 xB, .int .i64 qB, .int .i64 yB, .int .i64 fB, .bool mB, .int .u64 (aB : Int), .int .u64 (bB : Int), .int .u64 (cB : Int), .int .u64 (dB : Int)]); refine (p2.out _).mono ?_; rintro e w3 ⟨r, rfl, h3, b3⟩; have k3 := k2.trans (b3.mono k2.size); have qe := equal_any r _ _ _ w3 h3 (T3.out.later k3); rw [beq_self_eq_true] at qe; have qe := hide_ qe; clear h3) | (go_at_call 8; refine qe.out.mono ?_; rintro e w4 ⟨rfl, b4⟩; have k4 := k3.trans (b4.mono k3.size)) | (go_at_call 15; refine (aw.out _).mono ?_; rintro e w5 ⟨rfl, b5⟩))
      go_ret
      exact ⟨rfl, k4.trans (b5.mono k4.size)⟩
end

end Go.Proofs.Ytpopjgplbhnbnaa
