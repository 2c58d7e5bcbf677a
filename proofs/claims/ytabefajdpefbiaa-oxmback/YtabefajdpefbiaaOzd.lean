import Derived.Test.YtabefajdpefbiaaOzc
import Derived.Deep.RegionHeld3
import Derived.Deep.RegionWith
import Derived.Deep.MidRow
import Derived.Deep.Cut
namespace Go.Proofs.Ytabefajdpefbiaa
open Go Go.RowKit
set_option linter.unusedVariables false
set_option linter.unusedSimpArgs false

set_option maxRecDepth 100000 in
set_option maxHeartbeats 8000000 in
theorem back_yes_fault (f : Int) (m : Bool) (a b c d : Nat) (ao : Option Addr) (cap : Nat) (l L : List Int) (n8 : Nat) (w : World) (hB : Bytes w (.slice ao l.length cap) l)
    (gm : (if (8 : Int) < (l.length : Int) then (8 : Int) else (l.length : Int)) = (n8 : Int)) (hn8 : n8 ≤ l.length) (h8 : n8 ≤ 8) (hLl : L.length ≤ 1000) (hLB : isB L)
    (q1 : ∀ w, Calls Try.prog 7 #[ov f m a b c d] w fun e w' => ∃ r, e = .returned (.tuple #[r, .int .i64 0]) ∧ Bytes w' r L ∧ Below w.heap.size w w')
    (hd1 : decV (L ++ l.take n8) = .tuple #[ov f m a b c d, .int .i64 (L.length : Int), fv false 0 0]) (k : Int) (hv : decV l = .tuple #[ov 0 false 0 0 0 0, .int .i64 0, fv true 4 k]) :
    Calls Try.prog 5 #[ov f m a b c d, .slice ao l.length cap] w fun e w' => e = .returned (.bool true) ∧ Below w.heap.size w w' := by
  have q1 : ∀ w, Calls Try.prog 7 #[ov f m a b c d] w fun e w' => ∃ ar cr, e = .returned (.tuple #[.slice ar L.length cr, .int .i64 0]) ∧ Bytes w' (.slice ar L.length cr) L ∧ Below w.heap.size w w' := fun w => (q1 w).mono (by
    rintro e w' ⟨r, rfl, ⟨ar, cr, rfl, hh⟩, b⟩
    exact ⟨ar, cr, rfl, ⟨ar, cr, rfl, hh⟩, b⟩)
  have aw := hide_ (fun w => awake10_any w)
  have A0 := hide_ (AB.at0 w 26 [.int .i64 f, .bool m, .int .u64 (a : Int), .int .u64 (b : Int), .int .u64 (c : Int), .int .u64 (d : Int)])
  have B0 := hide_ (below1 w (.cells #[.int .i64 f, .bool m, .int .u64 (a : Int), .int .u64 (b : Int), .int .u64 (c : Int), .int .u64 (d : Int)] 26))
  have qd : ∀ W, Below w.heap.size w W → Calls Try.prog 17 #[.slice ao l.length cap] W fun e w' => e = .returned (decV l) ∧ Below W.heap.size W w' := fun W hW => odec_any _ l W (hB.later hW)
  have qd1 : ∀ v W, Bytes W v (L ++ l.take n8) → Calls Try.prog 17 #[v] W fun e w' => e = .returned (decV (L ++ l.take n8)) ∧ Below W.heap.size W w' := fun v W h => odec_any v _ W h
  rw [hd1] at qd1
  rw [hv] at qd
  clear hv
  obtain ⟨s1, s2, s3⟩ := bytes_take hB n8 hn8
  have S30 := hide_ s3
  have IB := hide_ hLB
  have IT := hide_ (isB_take hB.isB_ n8)
  have H63 : Hid (L.length + (l.take n8).length ≤ 140737488355328) := hide_ (by simp; omega)
  obtain ⟨i0, hi0, hz0, hz1, hz2⟩ := info_parts info5
  have HI : Hid (Try.prog.info? 5 = some i0 ∧ i0.zero = some (.int .u8 0) ∧ i0.size = 1 ∧ i0.bytes = 1) := ⟨hi0, hz0, hz1, hz2⟩
  clear hi0 hz0 hz1 hz2
  obtain ⟨y0, y1, y2, y3, y4, y5, -⟩ := A0.out.six
  have qcl := hide_ (fun v W (h : Bytes W v L) => clone_any v L W h (by omega))
  clear hB hd1 hn8 h8 hLl hLB s3
  unfold ov fv at *
  have q1 := hide_ q1
  have qd := hide_ qd
  have qd1 := hide_ qd1
  go_enter Try.func5, Try.ntmps5
  go_upto_region 3 with (first | (go_at_call_of 7 (Value.agg #[.int .i64 f, .bool m, .int .u64 (a : Int), .int .u64 (b : Int), .int .u64 (c : Int), .int .u64 (d : Int)]); refine (q1.out _).mono ?_; rintro e w1 ⟨ar, cr, rfl, h1, b1⟩; have h1 := hide_ h1; have k1 := B0.out.trans (b1.mono B0.out.size)))
  have S3 := hide_ (S30.out.later k1)
  have qc : Hid (∀ W, Below w1.heap.size w1 W → Calls Try.prog 19 #[.slice ar L.length cr] W fun e w' => ∃ rc, e = .returned rc ∧ w'.ownsRow W.heap.size 5 1 rc L.length (u8s L) ∧ Below W.heap.size W w') := hide_ (fun W hW => qcl.out _ W (h1.out.later hW))
  go_cut [7, 8, 9] from 22 (fun s7 s8 s9 wx => ∃ g7 g9, s7 = .pointer (some ⟨g7, 0, none⟩) ∧ s8 = .int .i64 (L.length : Int) ∧ s9 = .pointer (some ⟨g9, 0, none⟩) ∧ AB wx g7 26 [.int .i64 f, .bool m, .int .u64 (a : Int), .int .u64 (b : Int), .int .u64 (c : Int), .int .u64 (d : Int)] ∧ AB wx g9 39 [.bool false, .int .i64 0, .int .i64 0] ∧ Below w1.heap.size w1 wx)
  case first =>
    refine wp_region_held_drew (S := (fun w' => Below w1.heap.size w1 w')) (by kernel_rfl) ((Below.refl _ _).drew) (fun hHeld => ?_)
    have kb0 : Below w1.heap.size w1 w1.drew := (Below.refl _ _).drew
    generalize w1.drew = D0 at *
    refine takeR (i := 0) (v := ?_) rfl (by kernel_rfl) (by kernel_rfl) (by kernel_rfl) (some 23) rfl (Or.inl ⟨by rfl, ?_⟩) (fun _ _ _ h => h) (by assumption) ?_
    rotate_left
    · intro w hSw; (try dsimp only at hSw); go_simp; (try with_reducible rfl)
    simp only [Act.put, List.setIfInBounds_toArray, List.set_cons_zero, List.set_cons_succ]
    refine takeR (i := 2) (v := ?_) rfl (by kernel_rfl) (by kernel_rfl) (by kernel_rfl) (some 25) rfl (Or.inl ⟨by rfl, ?_⟩) (fun _ _ _ h => h) (by assumption) ?_
    rotate_left
    · intro w hSw; (try dsimp only at hSw); go_simp; (try with_reducible rfl)
    simp only [Act.put, List.setIfInBounds_toArray, List.set_cons_zero, List.set_cons_succ]
    refine takeR (i := 3) (v := ?_) rfl (by kernel_rfl) (by kernel_rfl) (by kernel_rfl) (some 26) rfl (Or.inl ⟨by rfl, ?_⟩) (fun _ _ _ h => h) (by assumption) ?_
    rotate_left
    · intro w hSw; (try dsimp only at hSw); go_simp; (try with_reducible rfl)
    simp only [Act.put, List.setIfInBounds_toArray, List.set_cons_zero, List.set_cons_succ]
    refine takeR (i := 4) (v := ?_) rfl (by kernel_rfl) (by kernel_rfl) (by kernel_rfl) (some 27) rfl (Or.inl ⟨by rfl, ?_⟩) (fun _ _ _ h => h) (by assumption) ?_
    rotate_left
    · intro w hSw; (try dsimp only at hSw); go_simp; (try with_reducible rfl)
    simp only [Act.put, List.setIfInBounds_toArray, List.set_cons_zero, List.set_cons_succ]
    refine takeR (i := 5) (v := .int .i64 (n8 : Int)) rfl (by kernel_rfl) (by kernel_rfl) (by kernel_rfl) (some 28) rfl (Or.inl ⟨by rfl, ?_⟩) (fun _ _ _ h => h) (by assumption) ?_
    · intro w hSw; (try dsimp only at hSw); go_simp; (first | done | (simp only [gm]) | (rw [gm]))
    simp only [Act.put, List.setIfInBounds_toArray, List.set_cons_zero, List.set_cons_succ]
    refine takeR (i := 6) (v := ?_) rfl (by kernel_rfl) (by kernel_rfl) (by kernel_rfl) (some 29) rfl (Or.inl ⟨by rfl, ?_⟩) (fun _ _ _ h => h) (by assumption) ?_
    rotate_left
    · intro w hSw; (try dsimp only at hSw); go_simp; (try with_reducible rfl)
    simp only [Act.put, List.setIfInBounds_toArray, List.set_cons_zero, List.set_cons_succ]
    refine wpAnyH_ready (rs := [1, 13, 14]) (by kernel_rfl) (by simp) ?_
    refine AllReadyH.cons rfl (fun K hK => ?_) (AllReadyH.cons rfl (fun K hK => ?_) (AllReadyH.cons rfl (fun K hK => ?_) (AllReadyH.nil)))
    · go_simp
      refine (qc.out _ kb0).mono ?_
      rintro e D1 ⟨rc, rfl, own, bj⟩
      refine hK.out _ _ (kb0.trans (bj.mono kb0.size)) (fun hHeld => ?_)
      clear hK K
      try simp only [Act.put, List.setIfInBounds_toArray, List.set_cons_zero, List.set_cons_succ]
      have kb1 := kb0.trans (bj.mono kb0.size)
      have lB : w1.heap.size ≤ D0.heap.size := kb0.size
      replace own := hide_ own
      have lC : D0.heap.size ≤ D1.heap.size := bj.size
      clear bj
      generalize D0.heap.size = bs at *
      refine wpAnyH_ready (rs := [7, 13, 14]) (by kernel_rfl) (by simp) ?_
      refine AllReadyH.cons rfl (fun K hK => ?_) (AllReadyH.cons rfl (fun K hK => ?_) (AllReadyH.cons rfl (fun K hK => ?_) (AllReadyH.nil)))
      · refine step_append_ownB rfl (.tmp 24) (.tmp 29) 27 rfl bs 5 i0 Try.underlying27 HI.out.1 HI.out.2.1 HI.out.2.2.1 HI.out.2.2.2 rc L.length (u8s L) (by first | rfl | simp [Act.eval, Act.put]) own.out (.slice ao n8 cap) (l.take n8) (by first | rfl | simp [Act.eval, Act.put]) (S3.out.later kb1) H63.out lC ?_
        intro va D2 own2 hg
        refine hK.out _ _ (kb1.trans (below_grown hg w1.heap.size kb1.size (fun k e => Nat.le_trans lB (own.out.lt k e).1))) (fun hHeld => ?_)
        clear hK K
        try simp only [Act.put, List.setIfInBounds_toArray, List.set_cons_zero, List.set_cons_succ]
        have kb2 := kb1.trans (below_grown hg w1.heap.size kb1.size (fun k e => Nat.le_trans lB (own.out.lt k e).1))
        have hA := hide_ (bytes_app own2 IB.out IT.out)
        clear own2 hg own
        refine wpAnyH_ready (rs := [8, 13, 14]) (by kernel_rfl) (by simp) ?_
        refine AllReadyH.cons rfl (fun K hK => ?_) (AllReadyH.cons rfl (fun K hK => ?_) (AllReadyH.cons rfl (fun K hK => ?_) (AllReadyH.nil)))
        · go_simp
          refine (qd1.out _ _ hA.out).mono ?_
          rintro e D3 ⟨rfl, bj⟩
          refine hK.out _ _ (kb2.trans (bj.mono kb2.size)) (fun hHeld => ?_)
          clear hK K
          try simp only [Act.put, List.setIfInBounds_toArray, List.set_cons_zero, List.set_cons_succ]
          have kb3 := kb2.trans (bj.mono kb2.size)
          clear bj hA
          refine takeR (i := 9) (v := ?_) rfl (by kernel_rfl) (by kernel_rfl) (by kernel_rfl) (some 22) rfl (Or.inl ⟨by rfl, ?_⟩) (fun _ _ _ h => h) (by assumption) ?_
          rotate_left
          · intro w hSw; (try dsimp only at hSw); go_simp; (try with_reducible rfl)
          simp only [Act.put, List.setIfInBounds_toArray, List.set_cons_zero, List.set_cons_succ]
          refine takeR (i := 10) (v := ?_) rfl (by kernel_rfl) (by kernel_rfl) (by kernel_rfl) (some 32) rfl (Or.inl ⟨by rfl, ?_⟩) (fun _ _ _ h => h) (by assumption) ?_
          rotate_left
          · intro w hSw; (try dsimp only at hSw); go_simp; (try with_reducible rfl)
          simp only [Act.put, List.setIfInBounds_toArray, List.set_cons_zero, List.set_cons_succ]
          refine takeR (i := 11) (v := ?_) rfl (by kernel_rfl) (by kernel_rfl) (by kernel_rfl) (some 33) rfl (Or.inl ⟨by rfl, ?_⟩) (fun _ _ _ h => h) (by assumption) ?_
          rotate_left
          · intro w hSw; (try dsimp only at hSw); go_simp; (try with_reducible rfl)
          simp only [Act.put, List.setIfInBounds_toArray, List.set_cons_zero, List.set_cons_succ]
          refine takeR (i := 12) (v := ?_) rfl (by kernel_rfl) (by kernel_rfl) (by kernel_rfl) (some 34) rfl (Or.inl ⟨by rfl, ?_⟩) (fun _ _ _ h => h) (by assumption) ?_
          rotate_left
          · intro w hSw; (try dsimp only at hSw); go_simp; (try with_reducible rfl)
          simp only [Act.put, List.setIfInBounds_toArray, List.set_cons_zero, List.set_cons_succ]
          refine wpAnyH_ready (rs := [13, 14]) (by kernel_rfl) (by simp) ?_
          refine AllReadyH.cons rfl (fun K hK => ?_) (AllReadyH.cons rfl (fun K hK => ?_) (AllReadyH.nil))
          · go_simp
            refine hK.out _ _ (kb3.trans ((below1 D3 (.cells #[.int .i64 0, .bool false, .int .u64 0, .int .u64 0, .int .u64 0, .int .u64 0] 26)).mono kb3.size)) (fun hHeld => ?_)
            clear hK K
            try simp only [Act.put, List.setIfInBounds_toArray, List.set_cons_zero, List.set_cons_succ]
            have bj := below1 D3 (.cells #[.int .i64 0, .bool false, .int .u64 0, .int .u64 0, .int .u64 0, .int .u64 0] 26)
            have kb4 := kb3.trans (bj.mono kb3.size)
            have X := hide_ (AB.at0 D3 26 [.int .i64 0, .bool false, .int .u64 0, .int .u64 0, .int .u64 0, .int .u64 0])
            have lX : w1.heap.size ≤ D3.heap.size := kb3.size
            clear bj
            generalize D3.alloc (.cells #[.int .i64 0, .bool false, .int .u64 0, .int .u64 0, .int .u64 0, .int .u64 0] 26) = D4 at *
            generalize D3.heap.size = g7 at *
            refine wpAnyH_ready (rs := [14]) (by kernel_rfl) (by simp) ?_
            refine AllReadyH.cons rfl (fun K hK => ?_) (AllReadyH.nil)
            go_simp
            refine hK.out _ _ (kb4.trans ((below1 D4 (.cells #[.bool false, .int .i64 0, .int .i64 0] 39)).mono kb4.size)) (fun hHeld => ?_)
            clear hK K
            try simp only [Act.put, List.setIfInBounds_toArray, List.set_cons_zero, List.set_cons_succ]
            have ho := X.out.lt
            have bj := below1 D4 (.cells #[.bool false, .int .i64 0, .int .i64 0] 39)
            have kb5 := kb4.trans (bj.mono kb4.size)
            replace X := hide_ (X.out.later bj)
            have G := hide_ (AB.at0 D4 39 [.bool false, .int .i64 0, .int .i64 0])
            have lG : w1.heap.size ≤ D4.heap.size := kb4.size
            have nXG : g7 ≠ D4.heap.size := by omega
            clear ho
            clear bj
            generalize D4.alloc (.cells #[.bool false, .int .i64 0, .int .i64 0] 39) = D5 at *
            generalize D4.heap.size = g9 at *
            refine wpAnyH_ready (rs := [15]) (by kernel_rfl) (by simp) ?_
            refine AllReadyH.cons rfl (fun K hK => ?_) (AllReadyH.nil)
            obtain ⟨z0, z1, z2, z3, z4, z5, z6, z7, z8, z9, z10, z11⟩ := X.out.six
            go_simp
            refine hK.out _ _ (below_set6 kb5 lX _ _ _ _ _ _) (fun hHeld => ?_)
            clear hK K
            try simp only [Act.put, List.setIfInBounds_toArray, List.set_cons_zero, List.set_cons_succ]
            clear z0 z1 z2 z3 z4 z5 z6 z7 z8 z9 z10 z11
            replace G := hide_ (G.out.far6 (h := g7) (Ne.symm nXG) (.int .i64 f) (.bool m) (.int .u64 (a : Int)) (.int .u64 (b : Int)) (.int .u64 (c : Int)) (.int .u64 (d : Int)))
            replace X := hide_ (X.out.set6 (.int .i64 f) (.bool m) (.int .u64 (a : Int)) (.int .u64 (b : Int)) (.int .u64 (c : Int)) (.int .u64 (d : Int)))
            have kb6 := below_set6 (g := g7) kb5 lX (.int .i64 f) (.bool m) (.int .u64 (a : Int)) (.int .u64 (b : Int)) (.int .u64 (c : Int)) (.int .u64 (d : Int))
            generalize ((((((D5.setCell ⟨g7, 0, none⟩ (.int .i64 f)).setCell ⟨g7, 1, none⟩ (.bool m)).setCell ⟨g7, 2, none⟩ (.int .u64 (a : Int))).setCell ⟨g7, 3, none⟩ (.int .u64 (b : Int))).setCell ⟨g7, 4, none⟩ (.int .u64 (c : Int))).setCell ⟨g7, 5, none⟩ (.int .u64 (d : Int))) = D6 at *
            refine takeR (i := 16) (v := ?_) rfl (by kernel_rfl) (by kernel_rfl) (by kernel_rfl) (some 8) rfl (Or.inl ⟨by rfl, ?_⟩) (fun _ _ _ h => h) (by assumption) ?_
            rotate_left
            · intro w hSw; (try dsimp only at hSw); go_simp; (try with_reducible rfl)
            simp only [Act.put, List.setIfInBounds_toArray, List.set_cons_zero, List.set_cons_succ]
            refine wpAnyH_ready (rs := [17]) (by kernel_rfl) (by simp) ?_
            refine AllReadyH.cons rfl (fun K hK => ?_) (AllReadyH.nil)
            obtain ⟨z0, z1, z2, z3, z4, z5⟩ := G.out.three
            go_simp
            refine hK.out _ _ (below_set3 kb6 lG _ _ _) (fun hHeld => ?_)
            clear hK K
            try simp only [Act.put, List.setIfInBounds_toArray, List.set_cons_zero, List.set_cons_succ]
            clear z0 z1 z2 z3 z4 z5
            replace X := hide_ (X.out.far3 (h := g9) nXG (.bool false) (.int .i64 0) (.int .i64 0))
            replace G := hide_ (G.out.set3 (.bool false) (.int .i64 0) (.int .i64 0))
            have kb7 := below_set3 (g := g9) kb6 lG (.bool false) (.int .i64 0) (.int .i64 0)
            generalize (((D6.setCell ⟨g9, 0, none⟩ (.bool false)).setCell ⟨g9, 1, none⟩ (.int .i64 0)).setCell ⟨g9, 2, none⟩ (.int .i64 0)) = D7 at *
            refine wpAnyH_done (by kernel_rfl) ?_ _
            go_wp2_with fail
            go_meet
            exact ⟨g7, g9, rfl, rfl, rfl, X.out, G.out, kb7⟩
          · go_simp
            refine hK.out _ _ (kb3.trans ((below1 D3 (.cells #[.bool false, .int .i64 0, .int .i64 0] 39)).mono kb3.size)) (fun hHeld => ?_)
            clear hK K
            try simp only [Act.put, List.setIfInBounds_toArray, List.set_cons_zero, List.set_cons_succ]
            have bj := below1 D3 (.cells #[.bool false, .int .i64 0, .int .i64 0] 39)
            have kb4 := kb3.trans (bj.mono kb3.size)
            have G := hide_ (AB.at0 D3 39 [.bool false, .int .i64 0, .int .i64 0])
            have lG : w1.heap.size ≤ D3.heap.size := kb3.size
            clear bj
            generalize D3.alloc (.cells #[.bool false, .int .i64 0, .int .i64 0] 39) = D4 at *
            generalize D3.heap.size = g9 at *
            refine wpAnyH_ready (rs := [13]) (by kernel_rfl) (by simp) ?_
            refine AllReadyH.cons rfl (fun K hK => ?_) (AllReadyH.nil)
            go_simp
            refine hK.out _ _ (kb4.trans ((below1 D4 (.cells #[.int .i64 0, .bool false, .int .u64 0, .int .u64 0, .int .u64 0, .int .u64 0] 26)).mono kb4.size)) (fun hHeld => ?_)
            clear hK K
            try simp only [Act.put, List.setIfInBounds_toArray, List.set_cons_zero, List.set_cons_succ]
            have ho := G.out.lt
            have bj := below1 D4 (.cells #[.int .i64 0, .bool false, .int .u64 0, .int .u64 0, .int .u64 0, .int .u64 0] 26)
            have kb5 := kb4.trans (bj.mono kb4.size)
            replace G := hide_ (G.out.later bj)
            have X := hide_ (AB.at0 D4 26 [.int .i64 0, .bool false, .int .u64 0, .int .u64 0, .int .u64 0, .int .u64 0])
            have lX : w1.heap.size ≤ D4.heap.size := kb4.size
            have nXG : D4.heap.size ≠ g9 := by omega
            clear ho
            clear bj
            generalize D4.alloc (.cells #[.int .i64 0, .bool false, .int .u64 0, .int .u64 0, .int .u64 0, .int .u64 0] 26) = D5 at *
            generalize D4.heap.size = g7 at *
            refine wpAnyH_ready (rs := [15]) (by kernel_rfl) (by simp) ?_
            refine AllReadyH.cons rfl (fun K hK => ?_) (AllReadyH.nil)
            obtain ⟨z0, z1, z2, z3, z4, z5, z6, z7, z8, z9, z10, z11⟩ := X.out.six
            go_simp
            refine hK.out _ _ (below_set6 kb5 lX _ _ _ _ _ _) (fun hHeld => ?_)
            clear hK K
            try simp only [Act.put, List.setIfInBounds_toArray, List.set_cons_zero, List.set_cons_succ]
            clear z0 z1 z2 z3 z4 z5 z6 z7 z8 z9 z10 z11
            replace G := hide_ (G.out.far6 (h := g7) (Ne.symm nXG) (.int .i64 f) (.bool m) (.int .u64 (a : Int)) (.int .u64 (b : Int)) (.int .u64 (c : Int)) (.int .u64 (d : Int)))
            replace X := hide_ (X.out.set6 (.int .i64 f) (.bool m) (.int .u64 (a : Int)) (.int .u64 (b : Int)) (.int .u64 (c : Int)) (.int .u64 (d : Int)))
            have kb6 := below_set6 (g := g7) kb5 lX (.int .i64 f) (.bool m) (.int .u64 (a : Int)) (.int .u64 (b : Int)) (.int .u64 (c : Int)) (.int .u64 (d : Int))
            generalize ((((((D5.setCell ⟨g7, 0, none⟩ (.int .i64 f)).setCell ⟨g7, 1, none⟩ (.bool m)).setCell ⟨g7, 2, none⟩ (.int .u64 (a : Int))).setCell ⟨g7, 3, none⟩ (.int .u64 (b : Int))).setCell ⟨g7, 4, none⟩ (.int .u64 (c : Int))).setCell ⟨g7, 5, none⟩ (.int .u64 (d : Int))) = D6 at *
            refine takeR (i := 16) (v := ?_) rfl (by kernel_rfl) (by kernel_rfl) (by kernel_rfl) (some 8) rfl (Or.inl ⟨by rfl, ?_⟩) (fun _ _ _ h => h) (by assumption) ?_
            rotate_left
            · intro w hSw; (try dsimp only at hSw); go_simp; (try with_reducible rfl)
            simp only [Act.put, List.setIfInBounds_toArray, List.set_cons_zero, List.set_cons_succ]
            refine wpAnyH_ready (rs := [17]) (by kernel_rfl) (by simp) ?_
            refine AllReadyH.cons rfl (fun K hK => ?_) (AllReadyH.nil)
            obtain ⟨z0, z1, z2, z3, z4, z5⟩ := G.out.three
            go_simp
            refine hK.out _ _ (below_set3 kb6 lG _ _ _) (fun hHeld => ?_)
            clear hK K
            try simp only [Act.put, List.setIfInBounds_toArray, List.set_cons_zero, List.set_cons_succ]
            clear z0 z1 z2 z3 z4 z5
            replace X := hide_ (X.out.far3 (h := g9) nXG (.bool false) (.int .i64 0) (.int .i64 0))
            replace G := hide_ (G.out.set3 (.bool false) (.int .i64 0) (.int .i64 0))
            have kb7 := below_set3 (g := g9) kb6 lG (.bool false) (.int .i64 0) (.int .i64 0)
            generalize (((D6.setCell ⟨g9, 0, none⟩ (.bool false)).setCell ⟨g9, 1, none⟩ (.int .i64 0)).setCell ⟨g9, 2, none⟩ (.int .i64 0)) = D7 at *
            refine wpAnyH_done (by kernel_rfl) ?_ _
            go_wp2_with fail
            go_meet
            exact ⟨g7, g9, rfl, rfl, rfl, X.out, G.out, kb7⟩
        · go_simp
          refine hK.out _ _ (kb2.trans ((below1 D2 (.cells #[.int .i64 0, .bool false, .int .u64 0, .int .u64 0, .int .u64 0, .int .u64 0] 26)).mono kb2.size)) (fun hHeld => ?_)
          clear hK K
          try simp only [Act.put, List.setIfInBounds_toArray, List.set_cons_zero, List.set_cons_succ]
          have bj := below1 D2 (.cells #[.int .i64 0, .bool false, .int .u64 0, .int .u64 0, .int .u64 0, .int .u64 0] 26)
          have kb3 := kb2.trans (bj.mono kb2.size)
          replace hA := hide_ (hA.out.later bj)
          have X := hide_ (AB.at0 D2 26 [.int .i64 0, .bool false, .int .u64 0, .int .u64 0, .int .u64 0, .int .u64 0])
          have lX : w1.heap.size ≤ D2.heap.size := kb2.size
          clear bj
          generalize D2.alloc (.cells #[.int .i64 0, .bool false, .int .u64 0, .int .u64 0, .int .u64 0, .int .u64 0] 26) = D3 at *
          generalize D2.heap.size = g7 at *
          refine wpAnyH_ready (rs := [8, 14]) (by kernel_rfl) (by simp) ?_
          refine AllReadyH.cons rfl (fun K hK => ?_) (AllReadyH.cons rfl (fun K hK => ?_) (AllReadyH.nil))
          · go_simp
            refine (qd1.out _ _ hA.out).mono ?_
            rintro e D4 ⟨rfl, bj⟩
            refine hK.out _ _ (kb3.trans (bj.mono kb3.size)) (fun hHeld => ?_)
            clear hK K
            try simp only [Act.put, List.setIfInBounds_toArray, List.set_cons_zero, List.set_cons_succ]
            have kb4 := kb3.trans (bj.mono kb3.size)
            replace X := hide_ (X.out.later bj)
            clear bj hA
            refine takeR (i := 9) (v := ?_) rfl (by kernel_rfl) (by kernel_rfl) (by kernel_rfl) (some 22) rfl (Or.inl ⟨by rfl, ?_⟩) (fun _ _ _ h => h) (by assumption) ?_
            rotate_left
            · intro w hSw; (try dsimp only at hSw); go_simp; (try with_reducible rfl)
            simp only [Act.put, List.setIfInBounds_toArray, List.set_cons_zero, List.set_cons_succ]
            refine takeR (i := 10) (v := ?_) rfl (by kernel_rfl) (by kernel_rfl) (by kernel_rfl) (some 32) rfl (Or.inl ⟨by rfl, ?_⟩) (fun _ _ _ h => h) (by assumption) ?_
            rotate_left
            · intro w hSw; (try dsimp only at hSw); go_simp; (try with_reducible rfl)
            simp only [Act.put, List.setIfInBounds_toArray, List.set_cons_zero, List.set_cons_succ]
            refine takeR (i := 11) (v := ?_) rfl (by kernel_rfl) (by kernel_rfl) (by kernel_rfl) (some 33) rfl (Or.inl ⟨by rfl, ?_⟩) (fun _ _ _ h => h) (by assumption) ?_
            rotate_left
            · intro w hSw; (try dsimp only at hSw); go_simp; (try with_reducible rfl)
            simp only [Act.put, List.setIfInBounds_toArray, List.set_cons_zero, List.set_cons_succ]
            refine takeR (i := 12) (v := ?_) rfl (by kernel_rfl) (by kernel_rfl) (by kernel_rfl) (some 34) rfl (Or.inl ⟨by rfl, ?_⟩) (fun _ _ _ h => h) (by assumption) ?_
            rotate_left
            · intro w hSw; (try dsimp only at hSw); go_simp; (try with_reducible rfl)
            simp only [Act.put, List.setIfInBounds_toArray, List.set_cons_zero, List.set_cons_succ]
            refine wpAnyH_ready (rs := [14]) (by kernel_rfl) (by simp) ?_
            refine AllReadyH.cons rfl (fun K hK => ?_) (AllReadyH.nil)
            go_simp
            refine hK.out _ _ (kb4.trans ((below1 D4 (.cells #[.bool false, .int .i64 0, .int .i64 0] 39)).mono kb4.size)) (fun hHeld => ?_)
            clear hK K
            try simp only [Act.put, List.setIfInBounds_toArray, List.set_cons_zero, List.set_cons_succ]
            have ho := X.out.lt
            have bj := below1 D4 (.cells #[.bool false, .int .i64 0, .int .i64 0] 39)
            have kb5 := kb4.trans (bj.mono kb4.size)
            replace X := hide_ (X.out.later bj)
            have G := hide_ (AB.at0 D4 39 [.bool false, .int .i64 0, .int .i64 0])
            have lG : w1.heap.size ≤ D4.heap.size := kb4.size
            have nXG : g7 ≠ D4.heap.size := by omega
            clear ho
            clear bj
            generalize D4.alloc (.cells #[.bool false, .int .i64 0, .int .i64 0] 39) = D5 at *
            generalize D4.heap.size = g9 at *
            refine wpAnyH_ready (rs := [15]) (by kernel_rfl) (by simp) ?_
            refine AllReadyH.cons rfl (fun K hK => ?_) (AllReadyH.nil)
            obtain ⟨z0, z1, z2, z3, z4, z5, z6, z7, z8, z9, z10, z11⟩ := X.out.six
            go_simp
            refine hK.out _ _ (below_set6 kb5 lX _ _ _ _ _ _) (fun hHeld => ?_)
            clear hK K
            try simp only [Act.put, List.setIfInBounds_toArray, List.set_cons_zero, List.set_cons_succ]
            clear z0 z1 z2 z3 z4 z5 z6 z7 z8 z9 z10 z11
            replace G := hide_ (G.out.far6 (h := g7) (Ne.symm nXG) (.int .i64 f) (.bool m) (.int .u64 (a : Int)) (.int .u64 (b : Int)) (.int .u64 (c : Int)) (.int .u64 (d : Int)))
            replace X := hide_ (X.out.set6 (.int .i64 f) (.bool m) (.int .u64 (a : Int)) (.int .u64 (b : Int)) (.int .u64 (c : Int)) (.int .u64 (d : Int)))
            have kb6 := below_set6 (g := g7) kb5 lX (.int .i64 f) (.bool m) (.int .u64 (a : Int)) (.int .u64 (b : Int)) (.int .u64 (c : Int)) (.int .u64 (d : Int))
            generalize ((((((D5.setCell ⟨g7, 0, none⟩ (.int .i64 f)).setCell ⟨g7, 1, none⟩ (.bool m)).setCell ⟨g7, 2, none⟩ (.int .u64 (a : Int))).setCell ⟨g7, 3, none⟩ (.int .u64 (b : Int))).setCell ⟨g7, 4, none⟩ (.int .u64 (c : Int))).setCell ⟨g7, 5, none⟩ (.int .u64 (d : Int))) = D6 at *
            refine takeR (i := 16) (v := ?_) rfl (by kernel_rfl) (by kernel_rfl) (by kernel_rfl) (some 8) rfl (Or.inl ⟨by rfl, ?_⟩) (fun _ _ _ h => h) (by assumption) ?_
            rotate_left
            · intro w hSw; (try dsimp only at hSw); go_simp; (try with_reducible rfl)
            simp only [Act.put, List.setIfInBounds_toArray, List.set_cons_zero, List.set_cons_succ]
            refine wpAnyH_ready (rs := [17]) (by kernel_rfl) (by simp) ?_
            refine AllReadyH.cons rfl (fun K hK => ?_) (AllReadyH.nil)
            obtain ⟨z0, z1, z2, z3, z4, z5⟩ := G.out.three
            go_simp
            refine hK.out _ _ (below_set3 kb6 lG _ _ _) (fun hHeld => ?_)
            clear hK K
            try simp only [Act.put, List.setIfInBounds_toArray, List.set_cons_zero, List.set_cons_succ]
            clear z0 z1 z2 z3 z4 z5
            replace X := hide_ (X.out.far3 (h := g9) nXG (.bool false) (.int .i64 0) (.int .i64 0))
            replace G := hide_ (G.out.set3 (.bool false) (.int .i64 0) (.int .i64 0))
            have kb7 := below_set3 (g := g9) kb6 lG (.bool false) (.int .i64 0) (.int .i64 0)
            generalize (((D6.setCell ⟨g9, 0, none⟩ (.bool false)).setCell ⟨g9, 1, none⟩ (.int .i64 0)).setCell ⟨g9, 2, none⟩ (.int .i64 0)) = D7 at *
            refine wpAnyH_done (by kernel_rfl) ?_ _
            go_wp2_with fail
            go_meet
            exact ⟨g7, g9, rfl, rfl, rfl, X.out, G.out, kb7⟩
          · go_simp
            refine hK.out _ _ (kb3.trans ((below1 D3 (.cells #[.bool false, .int .i64 0, .int .i64 0] 39)).mono kb3.size)) (fun hHeld => ?_)
            clear hK K
            try simp only [Act.put, List.setIfInBounds_toArray, List.set_cons_zero, List.set_cons_succ]
            have ho := X.out.lt
            have bj := below1 D3 (.cells #[.bool false, .int .i64 0, .int .i64 0] 39)
            have kb4 := kb3.trans (bj.mono kb3.size)
            replace X := hide_ (X.out.later bj)
            replace hA := hide_ (hA.out.later bj)
            have G := hide_ (AB.at0 D3 39 [.bool false, .int .i64 0, .int .i64 0])
            have lG : w1.heap.size ≤ D3.heap.size := kb3.size
            have nXG : g7 ≠ D3.heap.size := by omega
            clear ho
            clear bj
            generalize D3.alloc (.cells #[.bool false, .int .i64 0, .int .i64 0] 39) = D4 at *
            generalize D3.heap.size = g9 at *
            refine wpAnyH_ready (rs := [8]) (by kernel_rfl) (by simp) ?_
            refine AllReadyH.cons rfl (fun K hK => ?_) (AllReadyH.nil)
            go_simp
            refine (qd1.out _ _ hA.out).mono ?_
            rintro e D5 ⟨rfl, bj⟩
            refine hK.out _ _ (kb4.trans (bj.mono kb4.size)) (fun hHeld => ?_)
            clear hK K
            try simp only [Act.put, List.setIfInBounds_toArray, List.set_cons_zero, List.set_cons_succ]
            have kb5 := kb4.trans (bj.mono kb4.size)
            replace X := hide_ (X.out.later bj)
            replace G := hide_ (G.out.later bj)
            clear bj hA
            refine takeR (i := 9) (v := ?_) rfl (by kernel_rfl) (by kernel_rfl) (by kernel_rfl) (some 22) rfl (Or.inl ⟨by rfl, ?_⟩) (fun _ _ _ h => h) (by assumption) ?_
            rotate_left
            · intro w hSw; (try dsimp only at hSw); go_simp; (try with_reducible rfl)
            simp only [Act.put, List.setIfInBounds_toArray, List.set_cons_zero, List.set_cons_succ]
            refine takeR (i := 10) (v := ?_) rfl (by kernel_rfl) (by kernel_rfl) (by kernel_rfl) (some 32) rfl (Or.inl ⟨by rfl, ?_⟩) (fun _ _ _ h => h) (by assumption) ?_
            rotate_left
            · intro w hSw; (try dsimp only at hSw); go_simp; (try with_reducible rfl)
            simp only [Act.put, List.setIfInBounds_toArray, List.set_cons_zero, List.set_cons_succ]
            refine takeR (i := 11) (v := ?_) rfl (by kernel_rfl) (by kernel_rfl) (by kernel_rfl) (some 33) rfl (Or.inl ⟨by rfl, ?_⟩) (fun _ _ _ h => h) (by assumption) ?_
            rotate_left
            · intro w hSw; (try dsimp only at hSw); go_simp; (try with_reducible rfl)
            simp only [Act.put, List.setIfInBounds_toArray, List.set_cons_zero, List.set_cons_succ]
            refine takeR (i := 12) (v := ?_) rfl (by kernel_rfl) (by kernel_rfl) (by kernel_rfl) (some 34) rfl (Or.inl ⟨by rfl, ?_⟩) (fun _ _ _ h => h) (by assumption) ?_
            rotate_left
            · intro w hSw; (try dsimp only at hSw); go_simp; (try with_reducible rfl)
            simp only [Act.put, List.setIfInBounds_toArray, List.set_cons_zero, List.set_cons_succ]
            refine wpAnyH_ready (rs := [15]) (by kernel_rfl) (by simp) ?_
            refine AllReadyH.cons rfl (fun K hK => ?_) (AllReadyH.nil)
            obtain ⟨z0, z1, z2, z3, z4, z5, z6, z7, z8, z9, z10, z11⟩ := X.out.six
            go_simp
            refine hK.out _ _ (below_set6 kb5 lX _ _ _ _ _ _) (fun hHeld => ?_)
            clear hK K
            try simp only [Act.put, List.setIfInBounds_toArray, List.set_cons_zero, List.set_cons_succ]
            clear z0 z1 z2 z3 z4 z5 z6 z7 z8 z9 z10 z11
            replace G := hide_ (G.out.far6 (h := g7) (Ne.symm nXG) (.int .i64 f) (.bool m) (.int .u64 (a : Int)) (.int .u64 (b : Int)) (.int .u64 (c : Int)) (.int .u64 (d : Int)))
            replace X := hide_ (X.out.set6 (.int .i64 f) (.bool m) (.int .u64 (a : Int)) (.int .u64 (b : Int)) (.int .u64 (c : Int)) (.int .u64 (d : Int)))
            have kb6 := below_set6 (g := g7) kb5 lX (.int .i64 f) (.bool m) (.int .u64 (a : Int)) (.int .u64 (b : Int)) (.int .u64 (c : Int)) (.int .u64 (d : Int))
            generalize ((((((D5.setCell ⟨g7, 0, none⟩ (.int .i64 f)).setCell ⟨g7, 1, none⟩ (.bool m)).setCell ⟨g7, 2, none⟩ (.int .u64 (a : Int))).setCell ⟨g7, 3, none⟩ (.int .u64 (b : Int))).setCell ⟨g7, 4, none⟩ (.int .u64 (c : Int))).setCell ⟨g7, 5, none⟩ (.int .u64 (d : Int))) = D6 at *
            refine takeR (i := 16) (v := ?_) rfl (by kernel_rfl) (by kernel_rfl) (by kernel_rfl) (some 8) rfl (Or.inl ⟨by rfl, ?_⟩) (fun _ _ _ h => h) (by assumption) ?_
            rotate_left
            · intro w hSw; (try dsimp only at hSw); go_simp; (try with_reducible rfl)
            simp only [Act.put, List.setIfInBounds_toArray, List.set_cons_zero, List.set_cons_succ]
            refine wpAnyH_ready (rs := [17]) (by kernel_rfl) (by simp) ?_
            refine AllReadyH.cons rfl (fun K hK => ?_) (AllReadyH.nil)
            obtain ⟨z0, z1, z2, z3, z4, z5⟩ := G.out.three
            go_simp
            refine hK.out _ _ (below_set3 kb6 lG _ _ _) (fun hHeld => ?_)
            clear hK K
            try simp only [Act.put, List.setIfInBounds_toArray, List.set_cons_zero, List.set_cons_succ]
            clear z0 z1 z2 z3 z4 z5
            replace X := hide_ (X.out.far3 (h := g9) nXG (.bool false) (.int .i64 0) (.int .i64 0))
            replace G := hide_ (G.out.set3 (.bool false) (.int .i64 0) (.int .i64 0))
            have kb7 := below_set3 (g := g9) kb6 lG (.bool false) (.int .i64 0) (.int .i64 0)
            generalize (((D6.setCell ⟨g9, 0, none⟩ (.bool false)).setCell ⟨g9, 1, none⟩ (.int .i64 0)).setCell ⟨g9, 2, none⟩ (.int .i64 0)) = D7 at *
            refine wpAnyH_done (by kernel_rfl) ?_ _
            go_wp2_with fail
            go_meet
            exact ⟨g7, g9, rfl, rfl, rfl, X.out, G.out, kb7⟩
        · go_simp
          refine hK.out _ _ (kb2.trans ((below1 D2 (.cells #[.bool false, .int .i64 0, .int .i64 0] 39)).mono kb2.size)) (fun hHeld => ?_)
          clear hK K
          try simp only [Act.put, List.setIfInBounds_toArray, List.set_cons_zero, List.set_cons_succ]
          have bj := below1 D2 (.cells #[.bool false, .int .i64 0, .int .i64 0] 39)
          have kb3 := kb2.trans (bj.mono kb2.size)
          replace hA := hide_ (hA.out.later bj)
          have G := hide_ (AB.at0 D2 39 [.bool false, .int .i64 0, .int .i64 0])
          have lG : w1.heap.size ≤ D2.heap.size := kb2.size
          clear bj
          generalize D2.alloc (.cells #[.bool false, .int .i64 0, .int .i64 0] 39) = D3 at *
          generalize D2.heap.size = g9 at *
          refine wpAnyH_ready (rs := [8, 13]) (by kernel_rfl) (by simp) ?_
          refine AllReadyH.cons rfl (fun K hK => ?_) (AllReadyH.cons rfl (fun K hK => ?_) (AllReadyH.nil))
          · go_simp
            refine (qd1.out _ _ hA.out).mono ?_
            rintro e D4 ⟨rfl, bj⟩
            refine hK.out _ _ (kb3.trans (bj.mono kb3.size)) (fun hHeld => ?_)
            clear hK K
            try simp only [Act.put, List.setIfInBounds_toArray, List.set_cons_zero, List.set_cons_succ]
            have kb4 := kb3.trans (bj.mono kb3.size)
            replace G := hide_ (G.out.later bj)
            clear bj hA
            refine takeR (i := 9) (v := ?_) rfl (by kernel_rfl) (by kernel_rfl) (by kernel_rfl) (some 22) rfl (Or.inl ⟨by rfl, ?_⟩) (fun _ _ _ h => h) (by assumption) ?_
            rotate_left
            · intro w hSw; (try dsimp only at hSw); go_simp; (try with_reducible rfl)
            simp only [Act.put, List.setIfInBounds_toArray, List.set_cons_zero, List.set_cons_succ]
            refine takeR (i := 10) (v := ?_) rfl (by kernel_rfl) (by kernel_rfl) (by kernel_rfl) (some 32) rfl (Or.inl ⟨by rfl, ?_⟩) (fun _ _ _ h => h) (by assumption) ?_
            rotate_left
            · intro w hSw; (try dsimp only at hSw); go_simp; (try with_reducible rfl)
            simp only [Act.put, List.setIfInBounds_toArray, List.set_cons_zero, List.set_cons_succ]
            refine takeR (i := 11) (v := ?_) rfl (by kernel_rfl) (by kernel_rfl) (by kernel_rfl) (some 33) rfl (Or.inl ⟨by rfl, ?_⟩) (fun _ _ _ h => h) (by assumption) ?_
            rotate_left
            · intro w hSw; (try dsimp only at hSw); go_simp; (try with_reducible rfl)
            simp only [Act.put, List.setIfInBounds_toArray, List.set_cons_zero, List.set_cons_succ]
            refine takeR (i := 12) (v := ?_) rfl (by kernel_rfl) (by kernel_rfl) (by kernel_rfl) (some 34) rfl (Or.inl ⟨by rfl, ?_⟩) (fun _ _ _ h => h) (by assumption) ?_
            rotate_left
            · intro w hSw; (try dsimp only at hSw); go_simp; (try with_reducible rfl)
            simp only [Act.put, List.setIfInBounds_toArray, List.set_cons_zero, List.set_cons_succ]
            refine wpAnyH_ready (rs := [13]) (by kernel_rfl) (by simp) ?_
            refine AllReadyH.cons rfl (fun K hK => ?_) (AllReadyH.nil)
            go_simp
            refine hK.out _ _ (kb4.trans ((below1 D4 (.cells #[.int .i64 0, .bool false, .int .u64 0, .int .u64 0, .int .u64 0, .int .u64 0] 26)).mono kb4.size)) (fun hHeld => ?_)
            clear hK K
            try simp only [Act.put, List.setIfInBounds_toArray, List.set_cons_zero, List.set_cons_succ]
            have ho := G.out.lt
            have bj := below1 D4 (.cells #[.int .i64 0, .bool false, .int .u64 0, .int .u64 0, .int .u64 0, .int .u64 0] 26)
            have kb5 := kb4.trans (bj.mono kb4.size)
            replace G := hide_ (G.out.later bj)
            have X := hide_ (AB.at0 D4 26 [.int .i64 0, .bool false, .int .u64 0, .int .u64 0, .int .u64 0, .int .u64 0])
            have lX : w1.heap.size ≤ D4.heap.size := kb4.size
            have nXG : D4.heap.size ≠ g9 := by omega
            clear ho
            clear bj
            generalize D4.alloc (.cells #[.int .i64 0, .bool false, .int .u64 0, .int .u64 0, .int .u64 0, .int .u64 0] 26) = D5 at *
            generalize D4.heap.size = g7 at *
            refine wpAnyH_ready (rs := [15]) (by kernel_rfl) (by simp) ?_
            refine AllReadyH.cons rfl (fun K hK => ?_) (AllReadyH.nil)
            obtain ⟨z0, z1, z2, z3, z4, z5, z6, z7, z8, z9, z10, z11⟩ := X.out.six
            go_simp
            refine hK.out _ _ (below_set6 kb5 lX _ _ _ _ _ _) (fun hHeld => ?_)
            clear hK K
            try simp only [Act.put, List.setIfInBounds_toArray, List.set_cons_zero, List.set_cons_succ]
            clear z0 z1 z2 z3 z4 z5 z6 z7 z8 z9 z10 z11
            replace G := hide_ (G.out.far6 (h := g7) (Ne.symm nXG) (.int .i64 f) (.bool m) (.int .u64 (a : Int)) (.int .u64 (b : Int)) (.int .u64 (c : Int)) (.int .u64 (d : Int)))
            replace X := hide_ (X.out.set6 (.int .i64 f) (.bool m) (.int .u64 (a : Int)) (.int .u64 (b : Int)) (.int .u64 (c : Int)) (.int .u64 (d : Int)))
            have kb6 := below_set6 (g := g7) kb5 lX (.int .i64 f) (.bool m) (.int .u64 (a : Int)) (.int .u64 (b : Int)) (.int .u64 (c : Int)) (.int .u64 (d : Int))
            generalize ((((((D5.setCell ⟨g7, 0, none⟩ (.int .i64 f)).setCell ⟨g7, 1, none⟩ (.bool m)).setCell ⟨g7, 2, none⟩ (.int .u64 (a : Int))).setCell ⟨g7, 3, none⟩ (.int .u64 (b : Int))).setCell ⟨g7, 4, none⟩ (.int .u64 (c : Int))).setCell ⟨g7, 5, none⟩ (.int .u64 (d : Int))) = D6 at *
            refine takeR (i := 16) (v := ?_) rfl (by kernel_rfl) (by kernel_rfl) (by kernel_rfl) (some 8) rfl (Or.inl ⟨by rfl, ?_⟩) (fun _ _ _ h => h) (by assumption) ?_
            rotate_left
            · intro w hSw; (try dsimp only at hSw); go_simp; (try with_reducible rfl)
            simp only [Act.put, List.setIfInBounds_toArray, List.set_cons_zero, List.set_cons_succ]
            refine wpAnyH_ready (rs := [17]) (by kernel_rfl) (by simp) ?_
            refine AllReadyH.cons rfl (fun K hK => ?_) (AllReadyH.nil)
            obtain ⟨z0, z1, z2, z3, z4, z5⟩ := G.out.three
            go_simp
            refine hK.out _ _ (below_set3 kb6 lG _ _ _) (fun hHeld => ?_)
            clear hK K
            try simp only [Act.put, List.setIfInBounds_toArray, List.set_cons_zero, List.set_cons_succ]
            clear z0 z1 z2 z3 z4 z5
            replace X := hide_ (X.out.far3 (h := g9) nXG (.bool false) (.int .i64 0) (.int .i64 0))
            replace G := hide_ (G.out.set3 (.bool false) (.int .i64 0) (.int .i64 0))
            have kb7 := below_set3 (g := g9) kb6 lG (.bool false) (.int .i64 0) (.int .i64 0)
            generalize (((D6.setCell ⟨g9, 0, none⟩ (.bool false)).setCell ⟨g9, 1, none⟩ (.int .i64 0)).setCell ⟨g9, 2, none⟩ (.int .i64 0)) = D7 at *
            refine wpAnyH_done (by kernel_rfl) ?_ _
            go_wp2_with fail
            go_meet
            exact ⟨g7, g9, rfl, rfl, rfl, X.out, G.out, kb7⟩
          · go_simp
            refine hK.out _ _ (kb3.trans ((below1 D3 (.cells #[.int .i64 0, .bool false, .int .u64 0, .int .u64 0, .int .u64 0, .int .u64 0] 26)).mono kb3.size)) (fun hHeld => ?_)
            clear hK K
            try simp only [Act.put, List.setIfInBounds_toArray, List.set_cons_zero, List.set_cons_succ]
            have ho := G.out.lt
            have bj := below1 D3 (.cells #[.int .i64 0, .bool false, .int .u64 0, .int .u64 0, .int .u64 0, .int .u64 0] 26)
            have kb4 := kb3.trans (bj.mono kb3.size)
            replace G := hide_ (G.out.later bj)
            replace hA := hide_ (hA.out.later bj)
            have X := hide_ (AB.at0 D3 26 [.int .i64 0, .bool false, .int .u64 0, .int .u64 0, .int .u64 0, .int .u64 0])
            have lX : w1.heap.size ≤ D3.heap.size := kb3.size
            have nXG : D3.heap.size ≠ g9 := by omega
            clear ho
            clear bj
            generalize D3.alloc (.cells #[.int .i64 0, .bool false, .int .u64 0, .int .u64 0, .int .u64 0, .int .u64 0] 26) = D4 at *
            generalize D3.heap.size = g7 at *
            refine wpAnyH_ready (rs := [8]) (by kernel_rfl) (by simp) ?_
            refine AllReadyH.cons rfl (fun K hK => ?_) (AllReadyH.nil)
            go_simp
            refine (qd1.out _ _ hA.out).mono ?_
            rintro e D5 ⟨rfl, bj⟩
            refine hK.out _ _ (kb4.trans (bj.mono kb4.size)) (fun hHeld => ?_)
            clear hK K
            try simp only [Act.put, List.setIfInBounds_toArray, List.set_cons_zero, List.set_cons_succ]
            have kb5 := kb4.trans (bj.mono kb4.size)
            replace X := hide_ (X.out.later bj)
            replace G := hide_ (G.out.later bj)
            clear bj hA
            refine takeR (i := 9) (v := ?_) rfl (by kernel_rfl) (by kernel_rfl) (by kernel_rfl) (some 22) rfl (Or.inl ⟨by rfl, ?_⟩) (fun _ _ _ h => h) (by assumption) ?_
            rotate_left
            · intro w hSw; (try dsimp only at hSw); go_simp; (try with_reducible rfl)
            simp only [Act.put, List.setIfInBounds_toArray, List.set_cons_zero, List.set_cons_succ]
            refine takeR (i := 10) (v := ?_) rfl (by kernel_rfl) (by kernel_rfl) (by kernel_rfl) (some 32) rfl (Or.inl ⟨by rfl, ?_⟩) (fun _ _ _ h => h) (by assumption) ?_
            rotate_left
            · intro w hSw; (try dsimp only at hSw); go_simp; (try with_reducible rfl)
            simp only [Act.put, List.setIfInBounds_toArray, List.set_cons_zero, List.set_cons_succ]
            refine takeR (i := 11) (v := ?_) rfl (by kernel_rfl) (by kernel_rfl) (by kernel_rfl) (some 33) rfl (Or.inl ⟨by rfl, ?_⟩) (fun _ _ _ h => h) (by assumption) ?_
            rotate_left
            · intro w hSw; (try dsimp only at hSw); go_simp; (try with_reducible rfl)
            simp only [Act.put, List.setIfInBounds_toArray, List.set_cons_zero, List.set_cons_succ]
            refine takeR (i := 12) (v := ?_) rfl (by kernel_rfl) (by kernel_rfl) (by kernel_rfl) (some 34) rfl (Or.inl ⟨by rfl, ?_⟩) (fun _ _ _ h => h) (by assumption) ?_
            rotate_left
            · intro w hSw; (try dsimp only at hSw); go_simp; (try with_reducible rfl)
            simp only [Act.put, List.setIfInBounds_toArray, List.set_cons_zero, List.set_cons_succ]
            refine wpAnyH_ready (rs := [15]) (by kernel_rfl) (by simp) ?_
            refine AllReadyH.cons rfl (fun K hK => ?_) (AllReadyH.nil)
            obtain ⟨z0, z1, z2, z3, z4, z5, z6, z7, z8, z9, z10, z11⟩ := X.out.six
            go_simp
            refine hK.out _ _ (below_set6 kb5 lX _ _ _ _ _ _) (fun hHeld => ?_)
            clear hK K
            try simp only [Act.put, List.setIfInBounds_toArray, List.set_cons_zero, List.set_cons_succ]
            clear z0 z1 z2 z3 z4 z5 z6 z7 z8 z9 z10 z11
            replace G := hide_ (G.out.far6 (h := g7) (Ne.symm nXG) (.int .i64 f) (.bool m) (.int .u64 (a : Int)) (.int .u64 (b : Int)) (.int .u64 (c : Int)) (.int .u64 (d : Int)))
            replace X := hide_ (X.out.set6 (.int .i64 f) (.bool m) (.int .u64 (a : Int)) (.int .u64 (b : Int)) (.int .u64 (c : Int)) (.int .u64 (d : Int)))
            have kb6 := below_set6 (g := g7) kb5 lX (.int .i64 f) (.bool m) (.int .u64 (a : Int)) (.int .u64 (b : Int)) (.int .u64 (c : Int)) (.int .u64 (d : Int))
            generalize ((((((D5.setCell ⟨g7, 0, none⟩ (.int .i64 f)).setCell ⟨g7, 1, none⟩ (.bool m)).setCell ⟨g7, 2, none⟩ (.int .u64 (a : Int))).setCell ⟨g7, 3, none⟩ (.int .u64 (b : Int))).setCell ⟨g7, 4, none⟩ (.int .u64 (c : Int))).setCell ⟨g7, 5, none⟩ (.int .u64 (d : Int))) = D6 at *
            refine takeR (i := 16) (v := ?_) rfl (by kernel_rfl) (by kernel_rfl) (by kernel_rfl) (some 8) rfl (Or.inl ⟨by rfl, ?_⟩) (fun _ _ _ h => h) (by assumption) ?_
            rotate_left
            · intro w hSw; (try dsimp only at hSw); go_simp; (try with_reducible rfl)
            simp only [Act.put, List.setIfInBounds_toArray, List.set_cons_zero, List.set_cons_succ]
            refine wpAnyH_ready (rs := [17]) (by kernel_rfl) (by simp) ?_
            refine AllReadyH.cons rfl (fun K hK => ?_) (AllReadyH.nil)
            obtain ⟨z0, z1, z2, z3, z4, z5⟩ := G.out.three
            go_simp
            refine hK.out _ _ (below_set3 kb6 lG _ _ _) (fun hHeld => ?_)
            clear hK K
            try simp only [Act.put, List.setIfInBounds_toArray, List.set_cons_zero, List.set_cons_succ]
            clear z0 z1 z2 z3 z4 z5
            replace X := hide_ (X.out.far3 (h := g9) nXG (.bool false) (.int .i64 0) (.int .i64 0))
            replace G := hide_ (G.out.set3 (.bool false) (.int .i64 0) (.int .i64 0))
            have kb7 := below_set3 (g := g9) kb6 lG (.bool false) (.int .i64 0) (.int .i64 0)
            generalize (((D6.setCell ⟨g9, 0, none⟩ (.bool false)).setCell ⟨g9, 1, none⟩ (.int .i64 0)).setCell ⟨g9, 2, none⟩ (.int .i64 0)) = D7 at *
            refine wpAnyH_done (by kernel_rfl) ?_ _
            go_wp2_with fail
            go_meet
            exact ⟨g7, g9, rfl, rfl, rfl, X.out, G.out, kb7⟩
      · go_simp
        refine hK.out _ _ (kb1.trans ((below1 D1 (.cells #[.int .i64 0, .bool false, .int .u64 0, .int .u64 0, .int .u64 0, .int .u64 0] 26)).mono kb1.size)) (fun hHeld => ?_)
        clear hK K
        try simp only [Act.put, List.setIfInBounds_toArray, List.set_cons_zero, List.set_cons_succ]
        have bj := below1 D1 (.cells #[.int .i64 0, .bool false, .int .u64 0, .int .u64 0, .int .u64 0, .int .u64 0] 26)
        have kb2 := kb1.trans (bj.mono kb1.size)
        have nX : Hid (∀ k, rc.ownBlock = some k → k ≠ D1.heap.size) := hide_ (fun k e => Nat.ne_of_lt (own.out.lt k e).2)
        replace own := hide_ (own.out.alloc (.cells #[.int .i64 0, .bool false, .int .u64 0, .int .u64 0, .int .u64 0, .int .u64 0] 26))
        replace lC := Nat.le_trans lC bj.size
        have X := hide_ (AB.at0 D1 26 [.int .i64 0, .bool false, .int .u64 0, .int .u64 0, .int .u64 0, .int .u64 0])
        have lX : w1.heap.size ≤ D1.heap.size := kb1.size
        clear bj
        generalize D1.alloc (.cells #[.int .i64 0, .bool false, .int .u64 0, .int .u64 0, .int .u64 0, .int .u64 0] 26) = D2 at *
        generalize D1.heap.size = g7 at *
        refine wpAnyH_ready (rs := [7, 14]) (by kernel_rfl) (by simp) ?_
        refine AllReadyH.cons rfl (fun K hK => ?_) (AllReadyH.cons rfl (fun K hK => ?_) (AllReadyH.nil))
        · refine step_append_ownB rfl (.tmp 24) (.tmp 29) 27 rfl bs 5 i0 Try.underlying27 HI.out.1 HI.out.2.1 HI.out.2.2.1 HI.out.2.2.2 rc L.length (u8s L) (by first | rfl | simp [Act.eval, Act.put]) own.out (.slice ao n8 cap) (l.take n8) (by first | rfl | simp [Act.eval, Act.put]) (S3.out.later kb2) H63.out lC ?_
          intro va D3 own2 hg
          refine hK.out _ _ (kb2.trans (below_grown hg w1.heap.size kb2.size (fun k e => Nat.le_trans lB (own.out.lt k e).1))) (fun hHeld => ?_)
          clear hK K
          try simp only [Act.put, List.setIfInBounds_toArray, List.set_cons_zero, List.set_cons_succ]
          have kb3 := kb2.trans (below_grown hg w1.heap.size kb2.size (fun k e => Nat.le_trans lB (own.out.lt k e).1))
          replace X := hide_ (ab_grown X.out hg nX.out)
          have hA := hide_ (bytes_app own2 IB.out IT.out)
          clear own2 hg own
          clear nX
          refine wpAnyH_ready (rs := [8, 14]) (by kernel_rfl) (by simp) ?_
          refine AllReadyH.cons rfl (fun K hK => ?_) (AllReadyH.cons rfl (fun K hK => ?_) (AllReadyH.nil))
          · go_simp
            refine (qd1.out _ _ hA.out).mono ?_
            rintro e D4 ⟨rfl, bj⟩
            refine hK.out _ _ (kb3.trans (bj.mono kb3.size)) (fun hHeld => ?_)
            clear hK K
            try simp only [Act.put, List.setIfInBounds_toArray, List.set_cons_zero, List.set_cons_succ]
            have kb4 := kb3.trans (bj.mono kb3.size)
            replace X := hide_ (X.out.later bj)
            clear bj hA
            refine takeR (i := 9) (v := ?_) rfl (by kernel_rfl) (by kernel_rfl) (by kernel_rfl) (some 22) rfl (Or.inl ⟨by rfl, ?_⟩) (fun _ _ _ h => h) (by assumption) ?_
            rotate_left
            · intro w hSw; (try dsimp only at hSw); go_simp; (try with_reducible rfl)
            simp only [Act.put, List.setIfInBounds_toArray, List.set_cons_zero, List.set_cons_succ]
            refine takeR (i := 10) (v := ?_) rfl (by kernel_rfl) (by kernel_rfl) (by kernel_rfl) (some 32) rfl (Or.inl ⟨by rfl, ?_⟩) (fun _ _ _ h => h) (by assumption) ?_
            rotate_left
            · intro w hSw; (try dsimp only at hSw); go_simp; (try with_reducible rfl)
            simp only [Act.put, List.setIfInBounds_toArray, List.set_cons_zero, List.set_cons_succ]
            refine takeR (i := 11) (v := ?_) rfl (by kernel_rfl) (by kernel_rfl) (by kernel_rfl) (some 33) rfl (Or.inl ⟨by rfl, ?_⟩) (fun _ _ _ h => h) (by assumption) ?_
            rotate_left
            · intro w hSw; (try dsimp only at hSw); go_simp; (try with_reducible rfl)
            simp only [Act.put, List.setIfInBounds_toArray, List.set_cons_zero, List.set_cons_succ]
            refine takeR (i := 12) (v := ?_) rfl (by kernel_rfl) (by kernel_rfl) (by kernel_rfl) (some 34) rfl (Or.inl ⟨by rfl, ?_⟩) (fun _ _ _ h => h) (by assumption) ?_
            rotate_left
            · intro w hSw; (try dsimp only at hSw); go_simp; (try with_reducible rfl)
            simp only [Act.put, List.setIfInBounds_toArray, List.set_cons_zero, List.set_cons_succ]
            refine wpAnyH_ready (rs := [14]) (by kernel_rfl) (by simp) ?_
            refine AllReadyH.cons rfl (fun K hK => ?_) (AllReadyH.nil)
            go_simp
            refine hK.out _ _ (kb4.trans ((below1 D4 (.cells #[.bool false, .int .i64 0, .int .i64 0] 39)).mono kb4.size)) (fun hHeld => ?_)
            clear hK K
            try simp only [Act.put, List.setIfInBounds_toArray, List.set_cons_zero, List.set_cons_succ]
            have ho := X.out.lt
            have bj := below1 D4 (.cells #[.bool false, .int .i64 0, .int .i64 0] 39)
            have kb5 := kb4.trans (bj.mono kb4.size)
            replace X := hide_ (X.out.later bj)
            have G := hide_ (AB.at0 D4 39 [.bool false, .int .i64 0, .int .i64 0])
            have lG : w1.heap.size ≤ D4.heap.size := kb4.size
            have nXG : g7 ≠ D4.heap.size := by omega
            clear ho
            clear bj
            generalize D4.alloc (.cells #[.bool false, .int .i64 0, .int .i64 0] 39) = D5 at *
            generalize D4.heap.size = g9 at *
            refine wpAnyH_ready (rs := [15]) (by kernel_rfl) (by simp) ?_
            refine AllReadyH.cons rfl (fun K hK => ?_) (AllReadyH.nil)
            obtain ⟨z0, z1, z2, z3, z4, z5, z6, z7, z8, z9, z10, z11⟩ := X.out.six
            go_simp
            refine hK.out _ _ (below_set6 kb5 lX _ _ _ _ _ _) (fun hHeld => ?_)
            clear hK K
            try simp only [Act.put, List.setIfInBounds_toArray, List.set_cons_zero, List.set_cons_succ]
            clear z0 z1 z2 z3 z4 z5 z6 z7 z8 z9 z10 z11
            replace G := hide_ (G.out.far6 (h := g7) (Ne.symm nXG) (.int .i64 f) (.bool m) (.int .u64 (a : Int)) (.int .u64 (b : Int)) (.int .u64 (c : Int)) (.int .u64 (d : Int)))
            replace X := hide_ (X.out.set6 (.int .i64 f) (.bool m) (.int .u64 (a : Int)) (.int .u64 (b : Int)) (.int .u64 (c : Int)) (.int .u64 (d : Int)))
            have kb6 := below_set6 (g := g7) kb5 lX (.int .i64 f) (.bool m) (.int .u64 (a : Int)) (.int .u64 (b : Int)) (.int .u64 (c : Int)) (.int .u64 (d : Int))
            generalize ((((((D5.setCell ⟨g7, 0, none⟩ (.int .i64 f)).setCell ⟨g7, 1, none⟩ (.bool m)).setCell ⟨g7, 2, none⟩ (.int .u64 (a : Int))).setCell ⟨g7, 3, none⟩ (.int .u64 (b : Int))).setCell ⟨g7, 4, none⟩ (.int .u64 (c : Int))).setCell ⟨g7, 5, none⟩ (.int .u64 (d : Int))) = D6 at *
            refine takeR (i := 16) (v := ?_) rfl (by kernel_rfl) (by kernel_rfl) (by kernel_rfl) (some 8) rfl (Or.inl ⟨by rfl, ?_⟩) (fun _ _ _ h => h) (by assumption) ?_
            rotate_left
            · intro w hSw; (try dsimp only at hSw); go_simp; (try with_reducible rfl)
            simp only [Act.put, List.setIfInBounds_toArray, List.set_cons_zero, List.set_cons_succ]
            refine wpAnyH_ready (rs := [17]) (by kernel_rfl) (by simp) ?_
            refine AllReadyH.cons rfl (fun K hK => ?_) (AllReadyH.nil)
            obtain ⟨z0, z1, z2, z3, z4, z5⟩ := G.out.three
            go_simp
            refine hK.out _ _ (below_set3 kb6 lG _ _ _) (fun hHeld => ?_)
            clear hK K
            try simp only [Act.put, List.setIfInBounds_toArray, List.set_cons_zero, List.set_cons_succ]
            clear z0 z1 z2 z3 z4 z5
            replace X := hide_ (X.out.far3 (h := g9) nXG (.bool false) (.int .i64 0) (.int .i64 0))
            replace G := hide_ (G.out.set3 (.bool false) (.int .i64 0) (.int .i64 0))
            have kb7 := below_set3 (g := g9) kb6 lG (.bool false) (.int .i64 0) (.int .i64 0)
            generalize (((D6.setCell ⟨g9, 0, none⟩ (.bool false)).setCell ⟨g9, 1, none⟩ (.int .i64 0)).setCell ⟨g9, 2, none⟩ (.int .i64 0)) = D7 at *
            refine wpAnyH_done (by kernel_rfl) ?_ _
            go_wp2_with fail
            go_meet
            exact ⟨g7, g9, rfl, rfl, rfl, X.out, G.out, kb7⟩
          · go_simp
            refine hK.out _ _ (kb3.trans ((below1 D3 (.cells #[.bool false, .int .i64 0, .int .i64 0] 39)).mono kb3.size)) (fun hHeld => ?_)
            clear hK K
            try simp only [Act.put, List.setIfInBounds_toArray, List.set_cons_zero, List.set_cons_succ]
            have ho := X.out.lt
            have bj := below1 D3 (.cells #[.bool false, .int .i64 0, .int .i64 0] 39)
            have kb4 := kb3.trans (bj.mono kb3.size)
            replace X := hide_ (X.out.later bj)
            replace hA := hide_ (hA.out.later bj)
            have G := hide_ (AB.at0 D3 39 [.bool false, .int .i64 0, .int .i64 0])
            have lG : w1.heap.size ≤ D3.heap.size := kb3.size
            have nXG : g7 ≠ D3.heap.size := by omega
            clear ho
            clear bj
            generalize D3.alloc (.cells #[.bool false, .int .i64 0, .int .i64 0] 39) = D4 at *
            generalize D3.heap.size = g9 at *
            refine wpAnyH_ready (rs := [8]) (by kernel_rfl) (by simp) ?_
            refine AllReadyH.cons rfl (fun K hK => ?_) (AllReadyH.nil)
            go_simp
            refine (qd1.out _ _ hA.out).mono ?_
            rintro e D5 ⟨rfl, bj⟩
            refine hK.out _ _ (kb4.trans (bj.mono kb4.size)) (fun hHeld => ?_)
            clear hK K
            try simp only [Act.put, List.setIfInBounds_toArray, List.set_cons_zero, List.set_cons_succ]
            have kb5 := kb4.trans (bj.mono kb4.size)
            replace X := hide_ (X.out.later bj)
            replace G := hide_ (G.out.later bj)
            clear bj hA
            refine takeR (i := 9) (v := ?_) rfl (by kernel_rfl) (by kernel_rfl) (by kernel_rfl) (some 22) rfl (Or.inl ⟨by rfl, ?_⟩) (fun _ _ _ h => h) (by assumption) ?_
            rotate_left
            · intro w hSw; (try dsimp only at hSw); go_simp; (try with_reducible rfl)
            simp only [Act.put, List.setIfInBounds_toArray, List.set_cons_zero, List.set_cons_succ]
            refine takeR (i := 10) (v := ?_) rfl (by kernel_rfl) (by kernel_rfl) (by kernel_rfl) (some 32) rfl (Or.inl ⟨by rfl, ?_⟩) (fun _ _ _ h => h) (by assumption) ?_
            rotate_left
            · intro w hSw; (try dsimp only at hSw); go_simp; (try with_reducible rfl)
            simp only [Act.put, List.setIfInBounds_toArray, List.set_cons_zero, List.set_cons_succ]
            refine takeR (i := 11) (v := ?_) rfl (by kernel_rfl) (by kernel_rfl) (by kernel_rfl) (some 33) rfl (Or.inl ⟨by rfl, ?_⟩) (fun _ _ _ h => h) (by assumption) ?_
            rotate_left
            · intro w hSw; (try dsimp only at hSw); go_simp; (try with_reducible rfl)
            simp only [Act.put, List.setIfInBounds_toArray, List.set_cons_zero, List.set_cons_succ]
            refine takeR (i := 12) (v := ?_) rfl (by kernel_rfl) (by kernel_rfl) (by kernel_rfl) (some 34) rfl (Or.inl ⟨by rfl, ?_⟩) (fun _ _ _ h => h) (by assumption) ?_
            rotate_left
            · intro w hSw; (try dsimp only at hSw); go_simp; (try with_reducible rfl)
            simp only [Act.put, List.setIfInBounds_toArray, List.set_cons_zero, List.set_cons_succ]
            refine wpAnyH_ready (rs := [15]) (by kernel_rfl) (by simp) ?_
            refine AllReadyH.cons rfl (fun K hK => ?_) (AllReadyH.nil)
            obtain ⟨z0, z1, z2, z3, z4, z5, z6, z7, z8, z9, z10, z11⟩ := X.out.six
            go_simp
            refine hK.out _ _ (below_set6 kb5 lX _ _ _ _ _ _) (fun hHeld => ?_)
            clear hK K
            try simp only [Act.put, List.setIfInBounds_toArray, List.set_cons_zero, List.set_cons_succ]
            clear z0 z1 z2 z3 z4 z5 z6 z7 z8 z9 z10 z11
            replace G := hide_ (G.out.far6 (h := g7) (Ne.symm nXG) (.int .i64 f) (.bool m) (.int .u64 (a : Int)) (.int .u64 (b : Int)) (.int .u64 (c : Int)) (.int .u64 (d : Int)))
            replace X := hide_ (X.out.set6 (.int .i64 f) (.bool m) (.int .u64 (a : Int)) (.int .u64 (b : Int)) (.int .u64 (c : Int)) (.int .u64 (d : Int)))
            have kb6 := below_set6 (g := g7) kb5 lX (.int .i64 f) (.bool m) (.int .u64 (a : Int)) (.int .u64 (b : Int)) (.int .u64 (c : Int)) (.int .u64 (d : Int))
            generalize ((((((D5.setCell ⟨g7, 0, none⟩ (.int .i64 f)).setCell ⟨g7, 1, none⟩ (.bool m)).setCell ⟨g7, 2, none⟩ (.int .u64 (a : Int))).setCell ⟨g7, 3, none⟩ (.int .u64 (b : Int))).setCell ⟨g7, 4, none⟩ (.int .u64 (c : Int))).setCell ⟨g7, 5, none⟩ (.int .u64 (d : Int))) = D6 at *
            refine takeR (i := 16) (v := ?_) rfl (by kernel_rfl) (by kernel_rfl) (by kernel_rfl) (some 8) rfl (Or.inl ⟨by rfl, ?_⟩) (fun _ _ _ h => h) (by assumption) ?_
            rotate_left
            · intro w hSw; (try dsimp only at hSw); go_simp; (try with_reducible rfl)
            simp only [Act.put, List.setIfInBounds_toArray, List.set_cons_zero, List.set_cons_succ]
            refine wpAnyH_ready (rs := [17]) (by kernel_rfl) (by simp) ?_
            refine AllReadyH.cons rfl (fun K hK => ?_) (AllReadyH.nil)
            obtain ⟨z0, z1, z2, z3, z4, z5⟩ := G.out.three
            go_simp
            refine hK.out _ _ (below_set3 kb6 lG _ _ _) (fun hHeld => ?_)
            clear hK K
            try simp only [Act.put, List.setIfInBounds_toArray, List.set_cons_zero, List.set_cons_succ]
            clear z0 z1 z2 z3 z4 z5
            replace X := hide_ (X.out.far3 (h := g9) nXG (.bool false) (.int .i64 0) (.int .i64 0))
            replace G := hide_ (G.out.set3 (.bool false) (.int .i64 0) (.int .i64 0))
            have kb7 := below_set3 (g := g9) kb6 lG (.bool false) (.int .i64 0) (.int .i64 0)
            generalize (((D6.setCell ⟨g9, 0, none⟩ (.bool false)).setCell ⟨g9, 1, none⟩ (.int .i64 0)).setCell ⟨g9, 2, none⟩ (.int .i64 0)) = D7 at *
            refine wpAnyH_done (by kernel_rfl) ?_ _
            go_wp2_with fail
            go_meet
            exact ⟨g7, g9, rfl, rfl, rfl, X.out, G.out, kb7⟩
        · go_simp
          refine hK.out _ _ (kb2.trans ((below1 D2 (.cells #[.bool false, .int .i64 0, .int .i64 0] 39)).mono kb2.size)) (fun hHeld => ?_)
          clear hK K
          try simp only [Act.put, List.setIfInBounds_toArray, List.set_cons_zero, List.set_cons_succ]
          have ho := X.out.lt
          have bj := below1 D2 (.cells #[.bool false, .int .i64 0, .int .i64 0] 39)
          have kb3 := kb2.trans (bj.mono kb2.size)
          replace X := hide_ (X.out.later bj)
          have nG : Hid (∀ k, rc.ownBlock = some k → k ≠ D2.heap.size) := hide_ (fun k e => Nat.ne_of_lt (own.out.lt k e).2)
          replace own := hide_ (own.out.alloc (.cells #[.bool false, .int .i64 0, .int .i64 0] 39))
          replace lC := Nat.le_trans lC bj.size
          have G := hide_ (AB.at0 D2 39 [.bool false, .int .i64 0, .int .i64 0])
          have lG : w1.heap.size ≤ D2.heap.size := kb2.size
          have nXG : g7 ≠ D2.heap.size := by omega
          clear ho
          clear bj
          generalize D2.alloc (.cells #[.bool false, .int .i64 0, .int .i64 0] 39) = D3 at *
          generalize D2.heap.size = g9 at *
          refine wpAnyH_ready (rs := [7]) (by kernel_rfl) (by simp) ?_
          refine AllReadyH.cons rfl (fun K hK => ?_) (AllReadyH.nil)
          refine step_append_ownB rfl (.tmp 24) (.tmp 29) 27 rfl bs 5 i0 Try.underlying27 HI.out.1 HI.out.2.1 HI.out.2.2.1 HI.out.2.2.2 rc L.length (u8s L) (by first | rfl | simp [Act.eval, Act.put]) own.out (.slice ao n8 cap) (l.take n8) (by first | rfl | simp [Act.eval, Act.put]) (S3.out.later kb3) H63.out lC ?_
          intro va D4 own2 hg
          refine hK.out _ _ (kb3.trans (below_grown hg w1.heap.size kb3.size (fun k e => Nat.le_trans lB (own.out.lt k e).1))) (fun hHeld => ?_)
          clear hK K
          try simp only [Act.put, List.setIfInBounds_toArray, List.set_cons_zero, List.set_cons_succ]
          have kb4 := kb3.trans (below_grown hg w1.heap.size kb3.size (fun k e => Nat.le_trans lB (own.out.lt k e).1))
          replace X := hide_ (ab_grown X.out hg nX.out)
          replace G := hide_ (ab_grown G.out hg nG.out)
          have hA := hide_ (bytes_app own2 IB.out IT.out)
          clear own2 hg own
          clear nX
          clear nG
          refine wpAnyH_ready (rs := [8]) (by kernel_rfl) (by simp) ?_
          refine AllReadyH.cons rfl (fun K hK => ?_) (AllReadyH.nil)
          go_simp
          refine (qd1.out _ _ hA.out).mono ?_
          rintro e D5 ⟨rfl, bj⟩
          refine hK.out _ _ (kb4.trans (bj.mono kb4.size)) (fun hHeld => ?_)
          clear hK K
          try simp only [Act.put, List.setIfInBounds_toArray, List.set_cons_zero, List.set_cons_succ]
          have kb5 := kb4.trans (bj.mono kb4.size)
          replace X := hide_ (X.out.later bj)
          replace G := hide_ (G.out.later bj)
          clear bj hA
          refine takeR (i := 9) (v := ?_) rfl (by kernel_rfl) (by kernel_rfl) (by kernel_rfl) (some 22) rfl (Or.inl ⟨by rfl, ?_⟩) (fun _ _ _ h => h) (by assumption) ?_
          rotate_left
          · intro w hSw; (try dsimp only at hSw); go_simp; (try with_reducible rfl)
          simp only [Act.put, List.setIfInBounds_toArray, List.set_cons_zero, List.set_cons_succ]
          refine takeR (i := 10) (v := ?_) rfl (by kernel_rfl) (by kernel_rfl) (by kernel_rfl) (some 32) rfl (Or.inl ⟨by rfl, ?_⟩) (fun _ _ _ h => h) (by assumption) ?_
          rotate_left
          · intro w hSw; (try dsimp only at hSw); go_simp; (try with_reducible rfl)
          simp only [Act.put, List.setIfInBounds_toArray, List.set_cons_zero, List.set_cons_succ]
          refine takeR (i := 11) (v := ?_) rfl (by kernel_rfl) (by kernel_rfl) (by kernel_rfl) (some 33) rfl (Or.inl ⟨by rfl, ?_⟩) (fun _ _ _ h => h) (by assumption) ?_
          rotate_left
          · intro w hSw; (try dsimp only at hSw); go_simp; (try with_reducible rfl)
          simp only [Act.put, List.setIfInBounds_toArray, List.set_cons_zero, List.set_cons_succ]
          refine takeR (i := 12) (v := ?_) rfl (by kernel_rfl) (by kernel_rfl) (by kernel_rfl) (some 34) rfl (Or.inl ⟨by rfl, ?_⟩) (fun _ _ _ h => h) (by assumption) ?_
          rotate_left
          · intro w hSw; (try dsimp only at hSw); go_simp; (try with_reducible rfl)
          simp only [Act.put, List.setIfInBounds_toArray, List.set_cons_zero, List.set_cons_succ]
          refine wpAnyH_ready (rs := [15]) (by kernel_rfl) (by simp) ?_
          refine AllReadyH.cons rfl (fun K hK => ?_) (AllReadyH.nil)
          obtain ⟨z0, z1, z2, z3, z4, z5, z6, z7, z8, z9, z10, z11⟩ := X.out.six
          go_simp
          refine hK.out _ _ (below_set6 kb5 lX _ _ _ _ _ _) (fun hHeld => ?_)
          clear hK K
          try simp only [Act.put, List.setIfInBounds_toArray, List.set_cons_zero, List.set_cons_succ]
          clear z0 z1 z2 z3 z4 z5 z6 z7 z8 z9 z10 z11
          replace G := hide_ (G.out.far6 (h := g7) (Ne.symm nXG) (.int .i64 f) (.bool m) (.int .u64 (a : Int)) (.int .u64 (b : Int)) (.int .u64 (c : Int)) (.int .u64 (d : Int)))
          replace X := hide_ (X.out.set6 (.int .i64 f) (.bool m) (.int .u64 (a : Int)) (.int .u64 (b : Int)) (.int .u64 (c : Int)) (.int .u64 (d : Int)))
          have kb6 := below_set6 (g := g7) kb5 lX (.int .i64 f) (.bool m) (.int .u64 (a : Int)) (.int .u64 (b : Int)) (.int .u64 (c : Int)) (.int .u64 (d : Int))
          generalize ((((((D5.setCell ⟨g7, 0, none⟩ (.int .i64 f)).setCell ⟨g7, 1, none⟩ (.bool m)).setCell ⟨g7, 2, none⟩ (.int .u64 (a : Int))).setCell ⟨g7, 3, none⟩ (.int .u64 (b : Int))).setCell ⟨g7, 4, none⟩ (.int .u64 (c : Int))).setCell ⟨g7, 5, none⟩ (.int .u64 (d : Int))) = D6 at *
          refine takeR (i := 16) (v := ?_) rfl (by kernel_rfl) (by kernel_rfl) (by kernel_rfl) (some 8) rfl (Or.inl ⟨by rfl, ?_⟩) (fun _ _ _ h => h) (by assumption) ?_
          rotate_left
          · intro w hSw; (try dsimp only at hSw); go_simp; (try with_reducible rfl)
          simp only [Act.put, List.setIfInBounds_toArray, List.set_cons_zero, List.set_cons_succ]
          refine wpAnyH_ready (rs := [17]) (by kernel_rfl) (by simp) ?_
          refine AllReadyH.cons rfl (fun K hK => ?_) (AllReadyH.nil)
          obtain ⟨z0, z1, z2, z3, z4, z5⟩ := G.out.three
          go_simp
          refine hK.out _ _ (below_set3 kb6 lG _ _ _) (fun hHeld => ?_)
          clear hK K
          try simp only [Act.put, List.setIfInBounds_toArray, List.set_cons_zero, List.set_cons_succ]
          clear z0 z1 z2 z3 z4 z5
          replace X := hide_ (X.out.far3 (h := g9) nXG (.bool false) (.int .i64 0) (.int .i64 0))
          replace G := hide_ (G.out.set3 (.bool false) (.int .i64 0) (.int .i64 0))
          have kb7 := below_set3 (g := g9) kb6 lG (.bool false) (.int .i64 0) (.int .i64 0)
          generalize (((D6.setCell ⟨g9, 0, none⟩ (.bool false)).setCell ⟨g9, 1, none⟩ (.int .i64 0)).setCell ⟨g9, 2, none⟩ (.int .i64 0)) = D7 at *
          refine wpAnyH_done (by kernel_rfl) ?_ _
          go_wp2_with fail
          go_meet
          exact ⟨g7, g9, rfl, rfl, rfl, X.out, G.out, kb7⟩
      · go_simp
        refine hK.out _ _ (kb1.trans ((below1 D1 (.cells #[.bool false, .int .i64 0, .int .i64 0] 39)).mono kb1.size)) (fun hHeld => ?_)
        clear hK K
        try simp only [Act.put, List.setIfInBounds_toArray, List.set_cons_zero, List.set_cons_succ]
        have bj := below1 D1 (.cells #[.bool false, .int .i64 0, .int .i64 0] 39)
        have kb2 := kb1.trans (bj.mono kb1.size)
        have nG : Hid (∀ k, rc.ownBlock = some k → k ≠ D1.heap.size) := hide_ (fun k e => Nat.ne_of_lt (own.out.lt k e).2)
        replace own := hide_ (own.out.alloc (.cells #[.bool false, .int .i64 0, .int .i64 0] 39))
        replace lC := Nat.le_trans lC bj.size
        have G := hide_ (AB.at0 D1 39 [.bool false, .int .i64 0, .int .i64 0])
        have lG : w1.heap.size ≤ D1.heap.size := kb1.size
        clear bj
        generalize D1.alloc (.cells #[.bool false, .int .i64 0, .int .i64 0] 39) = D2 at *
        generalize D1.heap.size = g9 at *
        refine wpAnyH_ready (rs := [7, 13]) (by kernel_rfl) (by simp) ?_
        refine AllReadyH.cons rfl (fun K hK => ?_) (AllReadyH.cons rfl (fun K hK => ?_) (AllReadyH.nil))
        · refine step_append_ownB rfl (.tmp 24) (.tmp 29) 27 rfl bs 5 i0 Try.underlying27 HI.out.1 HI.out.2.1 HI.out.2.2.1 HI.out.2.2.2 rc L.length (u8s L) (by first | rfl | simp [Act.eval, Act.put]) own.out (.slice ao n8 cap) (l.take n8) (by first | rfl | simp [Act.eval, Act.put]) (S3.out.later kb2) H63.out lC ?_
          intro va D3 own2 hg
          refine hK.out _ _ (kb2.trans (below_grown hg w1.heap.size kb2.size (fun k e => Nat.le_trans lB (own.out.lt k e).1))) (fun hHeld => ?_)
          clear hK K
          try simp only [Act.put, List.setIfInBounds_toArray, List.set_cons_zero, List.set_cons_succ]
          have kb3 := kb2.trans (below_grown hg w1.heap.size kb2.size (fun k e => Nat.le_trans lB (own.out.lt k e).1))
          replace G := hide_ (ab_grown G.out hg nG.out)
          have hA := hide_ (bytes_app own2 IB.out IT.out)
          clear own2 hg own
          clear nG
          refine wpAnyH_ready (rs := [8, 13]) (by kernel_rfl) (by simp) ?_
          refine AllReadyH.cons rfl (fun K hK => ?_) (AllReadyH.cons rfl (fun K hK => ?_) (AllReadyH.nil))
          · go_simp
            refine (qd1.out _ _ hA.out).mono ?_
            rintro e D4 ⟨rfl, bj⟩
            refine hK.out _ _ (kb3.trans (bj.mono kb3.size)) (fun hHeld => ?_)
            clear hK K
            try simp only [Act.put, List.setIfInBounds_toArray, List.set_cons_zero, List.set_cons_succ]
            have kb4 := kb3.trans (bj.mono kb3.size)
            replace G := hide_ (G.out.later bj)
            clear bj hA
            refine takeR (i := 9) (v := ?_) rfl (by kernel_rfl) (by kernel_rfl) (by kernel_rfl) (some 22) rfl (Or.inl ⟨by rfl, ?_⟩) (fun _ _ _ h => h) (by assumption) ?_
            rotate_left
            · intro w hSw; (try dsimp only at hSw); go_simp; (try with_reducible rfl)
            simp only [Act.put, List.setIfInBounds_toArray, List.set_cons_zero, List.set_cons_succ]
            refine takeR (i := 10) (v := ?_) rfl (by kernel_rfl) (by kernel_rfl) (by kernel_rfl) (some 32) rfl (Or.inl ⟨by rfl, ?_⟩) (fun _ _ _ h => h) (by assumption) ?_
            rotate_left
            · intro w hSw; (try dsimp only at hSw); go_simp; (try with_reducible rfl)
            simp only [Act.put, List.setIfInBounds_toArray, List.set_cons_zero, List.set_cons_succ]
            refine takeR (i := 11) (v := ?_) rfl (by kernel_rfl) (by kernel_rfl) (by kernel_rfl) (some 33) rfl (Or.inl ⟨by rfl, ?_⟩) (fun _ _ _ h => h) (by assumption) ?_
            rotate_left
            · intro w hSw; (try dsimp only at hSw); go_simp; (try with_reducible rfl)
            simp only [Act.put, List.setIfInBounds_toArray, List.set_cons_zero, List.set_cons_succ]
            refine takeR (i := 12) (v := ?_) rfl (by kernel_rfl) (by kernel_rfl) (by kernel_rfl) (some 34) rfl (Or.inl ⟨by rfl, ?_⟩) (fun _ _ _ h => h) (by assumption) ?_
            rotate_left
            · intro w hSw; (try dsimp only at hSw); go_simp; (try with_reducible rfl)
            simp only [Act.put, List.setIfInBounds_toArray, List.set_cons_zero, List.set_cons_succ]
            refine wpAnyH_ready (rs := [13]) (by kernel_rfl) (by simp) ?_
            refine AllReadyH.cons rfl (fun K hK => ?_) (AllReadyH.nil)
            go_simp
            refine hK.out _ _ (kb4.trans ((below1 D4 (.cells #[.int .i64 0, .bool false, .int .u64 0, .int .u64 0, .int .u64 0, .int .u64 0] 26)).mono kb4.size)) (fun hHeld => ?_)
            clear hK K
            try simp only [Act.put, List.setIfInBounds_toArray, List.set_cons_zero, List.set_cons_succ]
            have ho := G.out.lt
            have bj := below1 D4 (.cells #[.int .i64 0, .bool false, .int .u64 0, .int .u64 0, .int .u64 0, .int .u64 0] 26)
            have kb5 := kb4.trans (bj.mono kb4.size)
            replace G := hide_ (G.out.later bj)
            have X := hide_ (AB.at0 D4 26 [.int .i64 0, .bool false, .int .u64 0, .int .u64 0, .int .u64 0, .int .u64 0])
            have lX : w1.heap.size ≤ D4.heap.size := kb4.size
            have nXG : D4.heap.size ≠ g9 := by omega
            clear ho
            clear bj
            generalize D4.alloc (.cells #[.int .i64 0, .bool false, .int .u64 0, .int .u64 0, .int .u64 0, .int .u64 0] 26) = D5 at *
            generalize D4.heap.size = g7 at *
            refine wpAnyH_ready (rs := [15]) (by kernel_rfl) (by simp) ?_
            refine AllReadyH.cons rfl (fun K hK => ?_) (AllReadyH.nil)
            obtain ⟨z0, z1, z2, z3, z4, z5, z6, z7, z8, z9, z10, z11⟩ := X.out.six
            go_simp
            refine hK.out _ _ (below_set6 kb5 lX _ _ _ _ _ _) (fun hHeld => ?_)
            clear hK K
            try simp only [Act.put, List.setIfInBounds_toArray, List.set_cons_zero, List.set_cons_succ]
            clear z0 z1 z2 z3 z4 z5 z6 z7 z8 z9 z10 z11
            replace G := hide_ (G.out.far6 (h := g7) (Ne.symm nXG) (.int .i64 f) (.bool m) (.int .u64 (a : Int)) (.int .u64 (b : Int)) (.int .u64 (c : Int)) (.int .u64 (d : Int)))
            replace X := hide_ (X.out.set6 (.int .i64 f) (.bool m) (.int .u64 (a : Int)) (.int .u64 (b : Int)) (.int .u64 (c : Int)) (.int .u64 (d : Int)))
            have kb6 := below_set6 (g := g7) kb5 lX (.int .i64 f) (.bool m) (.int .u64 (a : Int)) (.int .u64 (b : Int)) (.int .u64 (c : Int)) (.int .u64 (d : Int))
            generalize ((((((D5.setCell ⟨g7, 0, none⟩ (.int .i64 f)).setCell ⟨g7, 1, none⟩ (.bool m)).setCell ⟨g7, 2, none⟩ (.int .u64 (a : Int))).setCell ⟨g7, 3, none⟩ (.int .u64 (b : Int))).setCell ⟨g7, 4, none⟩ (.int .u64 (c : Int))).setCell ⟨g7, 5, none⟩ (.int .u64 (d : Int))) = D6 at *
            refine takeR (i := 16) (v := ?_) rfl (by kernel_rfl) (by kernel_rfl) (by kernel_rfl) (some 8) rfl (Or.inl ⟨by rfl, ?_⟩) (fun _ _ _ h => h) (by assumption) ?_
            rotate_left
            · intro w hSw; (try dsimp only at hSw); go_simp; (try with_reducible rfl)
            simp only [Act.put, List.setIfInBounds_toArray, List.set_cons_zero, List.set_cons_succ]
            refine wpAnyH_ready (rs := [17]) (by kernel_rfl) (by simp) ?_
            refine AllReadyH.cons rfl (fun K hK => ?_) (AllReadyH.nil)
            obtain ⟨z0, z1, z2, z3, z4, z5⟩ := G.out.three
            go_simp
            refine hK.out _ _ (below_set3 kb6 lG _ _ _) (fun hHeld => ?_)
            clear hK K
            try simp only [Act.put, List.setIfInBounds_toArray, List.set_cons_zero, List.set_cons_succ]
            clear z0 z1 z2 z3 z4 z5
            replace X := hide_ (X.out.far3 (h := g9) nXG (.bool false) (.int .i64 0) (.int .i64 0))
            replace G := hide_ (G.out.set3 (.bool false) (.int .i64 0) (.int .i64 0))
            have kb7 := below_set3 (g := g9) kb6 lG (.bool false) (.int .i64 0) (.int .i64 0)
            generalize (((D6.setCell ⟨g9, 0, none⟩ (.bool false)).setCell ⟨g9, 1, none⟩ (.int .i64 0)).setCell ⟨g9, 2, none⟩ (.int .i64 0)) = D7 at *
            refine wpAnyH_done (by kernel_rfl) ?_ _
            go_wp2_with fail
            go_meet
            exact ⟨g7, g9, rfl, rfl, rfl, X.out, G.out, kb7⟩
          · go_simp
            refine hK.out _ _ (kb3.trans ((below1 D3 (.cells #[.int .i64 0, .bool false, .int .u64 0, .int .u64 0, .int .u64 0, .int .u64 0] 26)).mono kb3.size)) (fun hHeld => ?_)
            clear hK K
            try simp only [Act.put, List.setIfInBounds_toArray, List.set_cons_zero, List.set_cons_succ]
            have ho := G.out.lt
            have bj := below1 D3 (.cells #[.int .i64 0, .bool false, .int .u64 0, .int .u64 0, .int .u64 0, .int .u64 0] 26)
            have kb4 := kb3.trans (bj.mono kb3.size)
            replace G := hide_ (G.out.later bj)
            replace hA := hide_ (hA.out.later bj)
            have X := hide_ (AB.at0 D3 26 [.int .i64 0, .bool false, .int .u64 0, .int .u64 0, .int .u64 0, .int .u64 0])
            have lX : w1.heap.size ≤ D3.heap.size := kb3.size
            have nXG : D3.heap.size ≠ g9 := by omega
            clear ho
            clear bj
            generalize D3.alloc (.cells #[.int .i64 0, .bool false, .int .u64 0, .int .u64 0, .int .u64 0, .int .u64 0] 26) = D4 at *
            generalize D3.heap.size = g7 at *
            refine wpAnyH_ready (rs := [8]) (by kernel_rfl) (by simp) ?_
            refine AllReadyH.cons rfl (fun K hK => ?_) (AllReadyH.nil)
            go_simp
            refine (qd1.out _ _ hA.out).mono ?_
            rintro e D5 ⟨rfl, bj⟩
            refine hK.out _ _ (kb4.trans (bj.mono kb4.size)) (fun hHeld => ?_)
            clear hK K
            try simp only [Act.put, List.setIfInBounds_toArray, List.set_cons_zero, List.set_cons_succ]
            have kb5 := kb4.trans (bj.mono kb4.size)
            replace X := hide_ (X.out.later bj)
            replace G := hide_ (G.out.later bj)
            clear bj hA
            refine takeR (i := 9) (v := ?_) rfl (by kernel_rfl) (by kernel_rfl) (by kernel_rfl) (some 22) rfl (Or.inl ⟨by rfl, ?_⟩) (fun _ _ _ h => h) (by assumption) ?_
            rotate_left
            · intro w hSw; (try dsimp only at hSw); go_simp; (try with_reducible rfl)
            simp only [Act.put, List.setIfInBounds_toArray, List.set_cons_zero, List.set_cons_succ]
            refine takeR (i := 10) (v := ?_) rfl (by kernel_rfl) (by kernel_rfl) (by kernel_rfl) (some 32) rfl (Or.inl ⟨by rfl, ?_⟩) (fun _ _ _ h => h) (by assumption) ?_
            rotate_left
            · intro w hSw; (try dsimp only at hSw); go_simp; (try with_reducible rfl)
            simp only [Act.put, List.setIfInBounds_toArray, List.set_cons_zero, List.set_cons_succ]
            refine takeR (i := 11) (v := ?_) rfl (by kernel_rfl) (by kernel_rfl) (by kernel_rfl) (some 33) rfl (Or.inl ⟨by rfl, ?_⟩) (fun _ _ _ h => h) (by assumption) ?_
            rotate_left
            · intro w hSw; (try dsimp only at hSw); go_simp; (try with_reducible rfl)
            simp only [Act.put, List.setIfInBounds_toArray, List.set_cons_zero, List.set_cons_succ]
            refine takeR (i := 12) (v := ?_) rfl (by kernel_rfl) (by kernel_rfl) (by kernel_rfl) (some 34) rfl (Or.inl ⟨by rfl, ?_⟩) (fun _ _ _ h => h) (by assumption) ?_
            rotate_left
            · intro w hSw; (try dsimp only at hSw); go_simp; (try with_reducible rfl)
            simp only [Act.put, List.setIfInBounds_toArray, List.set_cons_zero, List.set_cons_succ]
            refine wpAnyH_ready (rs := [15]) (by kernel_rfl) (by simp) ?_
            refine AllReadyH.cons rfl (fun K hK => ?_) (AllReadyH.nil)
            obtain ⟨z0, z1, z2, z3, z4, z5, z6, z7, z8, z9, z10, z11⟩ := X.out.six
            go_simp
            refine hK.out _ _ (below_set6 kb5 lX _ _ _ _ _ _) (fun hHeld => ?_)
            clear hK K
            try simp only [Act.put, List.setIfInBounds_toArray, List.set_cons_zero, List.set_cons_succ]
            clear z0 z1 z2 z3 z4 z5 z6 z7 z8 z9 z10 z11
            replace G := hide_ (G.out.far6 (h := g7) (Ne.symm nXG) (.int .i64 f) (.bool m) (.int .u64 (a : Int)) (.int .u64 (b : Int)) (.int .u64 (c : Int)) (.int .u64 (d : Int)))
            replace X := hide_ (X.out.set6 (.int .i64 f) (.bool m) (.int .u64 (a : Int)) (.int .u64 (b : Int)) (.int .u64 (c : Int)) (.int .u64 (d : Int)))
            have kb6 := below_set6 (g := g7) kb5 lX (.int .i64 f) (.bool m) (.int .u64 (a : Int)) (.int .u64 (b : Int)) (.int .u64 (c : Int)) (.int .u64 (d : Int))
            generalize ((((((D5.setCell ⟨g7, 0, none⟩ (.int .i64 f)).setCell ⟨g7, 1, none⟩ (.bool m)).setCell ⟨g7, 2, none⟩ (.int .u64 (a : Int))).setCell ⟨g7, 3, none⟩ (.int .u64 (b : Int))).setCell ⟨g7, 4, none⟩ (.int .u64 (c : Int))).setCell ⟨g7, 5, none⟩ (.int .u64 (d : Int))) = D6 at *
            refine takeR (i := 16) (v := ?_) rfl (by kernel_rfl) (by kernel_rfl) (by kernel_rfl) (some 8) rfl (Or.inl ⟨by rfl, ?_⟩) (fun _ _ _ h => h) (by assumption) ?_
            rotate_left
            · intro w hSw; (try dsimp only at hSw); go_simp; (try with_reducible rfl)
            simp only [Act.put, List.setIfInBounds_toArray, List.set_cons_zero, List.set_cons_succ]
            refine wpAnyH_ready (rs := [17]) (by kernel_rfl) (by simp) ?_
            refine AllReadyH.cons rfl (fun K hK => ?_) (AllReadyH.nil)
            obtain ⟨z0, z1, z2, z3, z4, z5⟩ := G.out.three
            go_simp
            refine hK.out _ _ (below_set3 kb6 lG _ _ _) (fun hHeld => ?_)
            clear hK K
            try simp only [Act.put, List.setIfInBounds_toArray, List.set_cons_zero, List.set_cons_succ]
            clear z0 z1 z2 z3 z4 z5
            replace X := hide_ (X.out.far3 (h := g9) nXG (.bool false) (.int .i64 0) (.int .i64 0))
            replace G := hide_ (G.out.set3 (.bool false) (.int .i64 0) (.int .i64 0))
            have kb7 := below_set3 (g := g9) kb6 lG (.bool false) (.int .i64 0) (.int .i64 0)
            generalize (((D6.setCell ⟨g9, 0, none⟩ (.bool false)).setCell ⟨g9, 1, none⟩ (.int .i64 0)).setCell ⟨g9, 2, none⟩ (.int .i64 0)) = D7 at *
            refine wpAnyH_done (by kernel_rfl) ?_ _
            go_wp2_with fail
            go_meet
            exact ⟨g7, g9, rfl, rfl, rfl, X.out, G.out, kb7⟩
        · go_simp
          refine hK.out _ _ (kb2.trans ((below1 D2 (.cells #[.int .i64 0, .bool false, .int .u64 0, .int .u64 0, .int .u64 0, .int .u64 0] 26)).mono kb2.size)) (fun hHeld => ?_)
          clear hK K
          try simp only [Act.put, List.setIfInBounds_toArray, List.set_cons_zero, List.set_cons_succ]
          have ho := G.out.lt
          have bj := below1 D2 (.cells #[.int .i64 0, .bool false, .int .u64 0, .int .u64 0, .int .u64 0, .int .u64 0] 26)
          have kb3 := kb2.trans (bj.mono kb2.size)
          replace G := hide_ (G.out.later bj)
          have nX : Hid (∀ k, rc.ownBlock = some k → k ≠ D2.heap.size) := hide_ (fun k e => Nat.ne_of_lt (own.out.lt k e).2)
          replace own := hide_ (own.out.alloc (.cells #[.int .i64 0, .bool false, .int .u64 0, .int .u64 0, .int .u64 0, .int .u64 0] 26))
          replace lC := Nat.le_trans lC bj.size
          have X := hide_ (AB.at0 D2 26 [.int .i64 0, .bool false, .int .u64 0, .int .u64 0, .int .u64 0, .int .u64 0])
          have lX : w1.heap.size ≤ D2.heap.size := kb2.size
          have nXG : D2.heap.size ≠ g9 := by omega
          clear ho
          clear bj
          generalize D2.alloc (.cells #[.int .i64 0, .bool false, .int .u64 0, .int .u64 0, .int .u64 0, .int .u64 0] 26) = D3 at *
          generalize D2.heap.size = g7 at *
          refine wpAnyH_ready (rs := [7]) (by kernel_rfl) (by simp) ?_
          refine AllReadyH.cons rfl (fun K hK => ?_) (AllReadyH.nil)
          refine step_append_ownB rfl (.tmp 24) (.tmp 29) 27 rfl bs 5 i0 Try.underlying27 HI.out.1 HI.out.2.1 HI.out.2.2.1 HI.out.2.2.2 rc L.length (u8s L) (by first | rfl | simp [Act.eval, Act.put]) own.out (.slice ao n8 cap) (l.take n8) (by first | rfl | simp [Act.eval, Act.put]) (S3.out.later kb3) H63.out lC ?_
          intro va D4 own2 hg
          refine hK.out _ _ (kb3.trans (below_grown hg w1.heap.size kb3.size (fun k e => Nat.le_trans lB (own.out.lt k e).1))) (fun hHeld => ?_)
          clear hK K
          try simp only [Act.put, List.setIfInBounds_toArray, List.set_cons_zero, List.set_cons_succ]
          have kb4 := kb3.trans (below_grown hg w1.heap.size kb3.size (fun k e => Nat.le_trans lB (own.out.lt k e).1))
          replace X := hide_ (ab_grown X.out hg nX.out)
          replace G := hide_ (ab_grown G.out hg nG.out)
          have hA := hide_ (bytes_app own2 IB.out IT.out)
          clear own2 hg own
          clear nX
          clear nG
          refine wpAnyH_ready (rs := [8]) (by kernel_rfl) (by simp) ?_
          refine AllReadyH.cons rfl (fun K hK => ?_) (AllReadyH.nil)
          go_simp
          refine (qd1.out _ _ hA.out).mono ?_
          rintro e D5 ⟨rfl, bj⟩
          refine hK.out _ _ (kb4.trans (bj.mono kb4.size)) (fun hHeld => ?_)
          clear hK K
          try simp only [Act.put, List.setIfInBounds_toArray, List.set_cons_zero, List.set_cons_succ]
          have kb5 := kb4.trans (bj.mono kb4.size)
          replace X := hide_ (X.out.later bj)
          replace G := hide_ (G.out.later bj)
          clear bj hA
          refine takeR (i := 9) (v := ?_) rfl (by kernel_rfl) (by kernel_rfl) (by kernel_rfl) (some 22) rfl (Or.inl ⟨by rfl, ?_⟩) (fun _ _ _ h => h) (by assumption) ?_
          rotate_left
          · intro w hSw; (try dsimp only at hSw); go_simp; (try with_reducible rfl)
          simp only [Act.put, List.setIfInBounds_toArray, List.set_cons_zero, List.set_cons_succ]
          refine takeR (i := 10) (v := ?_) rfl (by kernel_rfl) (by kernel_rfl) (by kernel_rfl) (some 32) rfl (Or.inl ⟨by rfl, ?_⟩) (fun _ _ _ h => h) (by assumption) ?_
          rotate_left
          · intro w hSw; (try dsimp only at hSw); go_simp; (try with_reducible rfl)
          simp only [Act.put, List.setIfInBounds_toArray, List.set_cons_zero, List.set_cons_succ]
          refine takeR (i := 11) (v := ?_) rfl (by kernel_rfl) (by kernel_rfl) (by kernel_rfl) (some 33) rfl (Or.inl ⟨by rfl, ?_⟩) (fun _ _ _ h => h) (by assumption) ?_
          rotate_left
          · intro w hSw; (try dsimp only at hSw); go_simp; (try with_reducible rfl)
          simp only [Act.put, List.setIfInBounds_toArray, List.set_cons_zero, List.set_cons_succ]
          refine takeR (i := 12) (v := ?_) rfl (by kernel_rfl) (by kernel_rfl) (by kernel_rfl) (some 34) rfl (Or.inl ⟨by rfl, ?_⟩) (fun _ _ _ h => h) (by assumption) ?_
          rotate_left
          · intro w hSw; (try dsimp only at hSw); go_simp; (try with_reducible rfl)
          simp only [Act.put, List.setIfInBounds_toArray, List.set_cons_zero, List.set_cons_succ]
          refine wpAnyH_ready (rs := [15]) (by kernel_rfl) (by simp) ?_
          refine AllReadyH.cons rfl (fun K hK => ?_) (AllReadyH.nil)
          obtain ⟨z0, z1, z2, z3, z4, z5, z6, z7, z8, z9, z10, z11⟩ := X.out.six
          go_simp
          refine hK.out _ _ (below_set6 kb5 lX _ _ _ _ _ _) (fun hHeld => ?_)
          clear hK K
          try simp only [Act.put, List.setIfInBounds_toArray, List.set_cons_zero, List.set_cons_succ]
          clear z0 z1 z2 z3 z4 z5 z6 z7 z8 z9 z10 z11
          replace G := hide_ (G.out.far6 (h := g7) (Ne.symm nXG) (.int .i64 f) (.bool m) (.int .u64 (a : Int)) (.int .u64 (b : Int)) (.int .u64 (c : Int)) (.int .u64 (d : Int)))
          replace X := hide_ (X.out.set6 (.int .i64 f) (.bool m) (.int .u64 (a : Int)) (.int .u64 (b : Int)) (.int .u64 (c : Int)) (.int .u64 (d : Int)))
          have kb6 := below_set6 (g := g7) kb5 lX (.int .i64 f) (.bool m) (.int .u64 (a : Int)) (.int .u64 (b : Int)) (.int .u64 (c : Int)) (.int .u64 (d : Int))
          generalize ((((((D5.setCell ⟨g7, 0, none⟩ (.int .i64 f)).setCell ⟨g7, 1, none⟩ (.bool m)).setCell ⟨g7, 2, none⟩ (.int .u64 (a : Int))).setCell ⟨g7, 3, none⟩ (.int .u64 (b : Int))).setCell ⟨g7, 4, none⟩ (.int .u64 (c : Int))).setCell ⟨g7, 5, none⟩ (.int .u64 (d : Int))) = D6 at *
          refine takeR (i := 16) (v := ?_) rfl (by kernel_rfl) (by kernel_rfl) (by kernel_rfl) (some 8) rfl (Or.inl ⟨by rfl, ?_⟩) (fun _ _ _ h => h) (by assumption) ?_
          rotate_left
          · intro w hSw; (try dsimp only at hSw); go_simp; (try with_reducible rfl)
          simp only [Act.put, List.setIfInBounds_toArray, List.set_cons_zero, List.set_cons_succ]
          refine wpAnyH_ready (rs := [17]) (by kernel_rfl) (by simp) ?_
          refine AllReadyH.cons rfl (fun K hK => ?_) (AllReadyH.nil)
          obtain ⟨z0, z1, z2, z3, z4, z5⟩ := G.out.three
          go_simp
          refine hK.out _ _ (below_set3 kb6 lG _ _ _) (fun hHeld => ?_)
          clear hK K
          try simp only [Act.put, List.setIfInBounds_toArray, List.set_cons_zero, List.set_cons_succ]
          clear z0 z1 z2 z3 z4 z5
          replace X := hide_ (X.out.far3 (h := g9) nXG (.bool false) (.int .i64 0) (.int .i64 0))
          replace G := hide_ (G.out.set3 (.bool false) (.int .i64 0) (.int .i64 0))
          have kb7 := below_set3 (g := g9) kb6 lG (.bool false) (.int .i64 0) (.int .i64 0)
          generalize (((D6.setCell ⟨g9, 0, none⟩ (.bool false)).setCell ⟨g9, 1, none⟩ (.int .i64 0)).setCell ⟨g9, 2, none⟩ (.int .i64 0)) = D7 at *
          refine wpAnyH_done (by kernel_rfl) ?_ _
          go_wp2_with fail
          go_meet
          exact ⟨g7, g9, rfl, rfl, rfl, X.out, G.out, kb7⟩
    · go_simp
      refine hK.out _ _ (kb0.trans ((below1 D0 (.cells #[.int .i64 0, .bool false, .int .u64 0, .int .u64 0, .int .u64 0, .int .u64 0] 26)).mono kb0.size)) (fun hHeld => ?_)
      clear hK K
      try simp only [Act.put, List.setIfInBounds_toArray, List.set_cons_zero, List.set_cons_succ]
      have bj := below1 D0 (.cells #[.int .i64 0, .bool false, .int .u64 0, .int .u64 0, .int .u64 0, .int .u64 0] 26)
      have kb1 := kb0.trans (bj.mono kb0.size)
      have X := hide_ (AB.at0 D0 26 [.int .i64 0, .bool false, .int .u64 0, .int .u64 0, .int .u64 0, .int .u64 0])
      have lX : w1.heap.size ≤ D0.heap.size := kb0.size
      clear bj
      generalize D0.alloc (.cells #[.int .i64 0, .bool false, .int .u64 0, .int .u64 0, .int .u64 0, .int .u64 0] 26) = D1 at *
      generalize D0.heap.size = g7 at *
      refine wpAnyH_ready (rs := [1, 14]) (by kernel_rfl) (by simp) ?_
      refine AllReadyH.cons rfl (fun K hK => ?_) (AllReadyH.cons rfl (fun K hK => ?_) (AllReadyH.nil))
      · go_simp
        refine (qc.out _ kb1).mono ?_
        rintro e D2 ⟨rc, rfl, own, bj⟩
        refine hK.out _ _ (kb1.trans (bj.mono kb1.size)) (fun hHeld => ?_)
        clear hK K
        try simp only [Act.put, List.setIfInBounds_toArray, List.set_cons_zero, List.set_cons_succ]
        have kb2 := kb1.trans (bj.mono kb1.size)
        have lB : w1.heap.size ≤ D1.heap.size := kb1.size
        replace own := hide_ own
        have lC : D1.heap.size ≤ D2.heap.size := bj.size
        have nX : Hid (∀ k, rc.ownBlock = some k → k ≠ g7) := hide_ (fun k e => by have h1 := (own.out.lt k e).1; have h2 := X.out.lt; omega)
        replace X := hide_ (X.out.later bj)
        clear bj
        generalize D1.heap.size = bs at *
        refine wpAnyH_ready (rs := [7, 14]) (by kernel_rfl) (by simp) ?_
        refine AllReadyH.cons rfl (fun K hK => ?_) (AllReadyH.cons rfl (fun K hK => ?_) (AllReadyH.nil))
        · refine step_append_ownB rfl (.tmp 24) (.tmp 29) 27 rfl bs 5 i0 Try.underlying27 HI.out.1 HI.out.2.1 HI.out.2.2.1 HI.out.2.2.2 rc L.length (u8s L) (by first | rfl | simp [Act.eval, Act.put]) own.out (.slice ao n8 cap) (l.take n8) (by first | rfl | simp [Act.eval, Act.put]) (S3.out.later kb2) H63.out lC ?_
          intro va D3 own2 hg
          refine hK.out _ _ (kb2.trans (below_grown hg w1.heap.size kb2.size (fun k e => Nat.le_trans lB (own.out.lt k e).1))) (fun hHeld => ?_)
          clear hK K
          try simp only [Act.put, List.setIfInBounds_toArray, List.set_cons_zero, List.set_cons_succ]
          have kb3 := kb2.trans (below_grown hg w1.heap.size kb2.size (fun k e => Nat.le_trans lB (own.out.lt k e).1))
          replace X := hide_ (ab_grown X.out hg nX.out)
          have hA := hide_ (bytes_app own2 IB.out IT.out)
          clear own2 hg own
          clear nX
          refine wpAnyH_ready (rs := [8, 14]) (by kernel_rfl) (by simp) ?_
          refine AllReadyH.cons rfl (fun K hK => ?_) (AllReadyH.cons rfl (fun K hK => ?_) (AllReadyH.nil))
          · go_simp
            refine (qd1.out _ _ hA.out).mono ?_
            rintro e D4 ⟨rfl, bj⟩
            refine hK.out _ _ (kb3.trans (bj.mono kb3.size)) (fun hHeld => ?_)
            clear hK K
            try simp only [Act.put, List.setIfInBounds_toArray, List.set_cons_zero, List.set_cons_succ]
            have kb4 := kb3.trans (bj.mono kb3.size)
            replace X := hide_ (X.out.later bj)
            clear bj hA
            refine takeR (i := 9) (v := ?_) rfl (by kernel_rfl) (by kernel_rfl) (by kernel_rfl) (some 22) rfl (Or.inl ⟨by rfl, ?_⟩) (fun _ _ _ h => h) (by assumption) ?_
            rotate_left
            · intro w hSw; (try dsimp only at hSw); go_simp; (try with_reducible rfl)
            simp only [Act.put, List.setIfInBounds_toArray, List.set_cons_zero, List.set_cons_succ]
            refine takeR (i := 10) (v := ?_) rfl (by kernel_rfl) (by kernel_rfl) (by kernel_rfl) (some 32) rfl (Or.inl ⟨by rfl, ?_⟩) (fun _ _ _ h => h) (by assumption) ?_
            rotate_left
            · intro w hSw; (try dsimp only at hSw); go_simp; (try with_reducible rfl)
            simp only [Act.put, List.setIfInBounds_toArray, List.set_cons_zero, List.set_cons_succ]
            refine takeR (i := 11) (v := ?_) rfl (by kernel_rfl) (by kernel_rfl) (by kernel_rfl) (some 33) rfl (Or.inl ⟨by rfl, ?_⟩) (fun _ _ _ h => h) (by assumption) ?_
            rotate_left
            · intro w hSw; (try dsimp only at hSw); go_simp; (try with_reducible rfl)
            simp only [Act.put, List.setIfInBounds_toArray, List.set_cons_zero, List.set_cons_succ]
            refine takeR (i := 12) (v := ?_) rfl (by kernel_rfl) (by kernel_rfl) (by kernel_rfl) (some 34) rfl (Or.inl ⟨by rfl, ?_⟩) (fun _ _ _ h => h) (by assumption) ?_
            rotate_left
            · intro w hSw; (try dsimp only at hSw); go_simp; (try with_reducible rfl)
            simp only [Act.put, List.setIfInBounds_toArray, List.set_cons_zero, List.set_cons_succ]
            refine wpAnyH_ready (rs := [14]) (by kernel_rfl) (by simp) ?_
            refine AllReadyH.cons rfl (fun K hK => ?_) (AllReadyH.nil)
            go_simp
            refine hK.out _ _ (kb4.trans ((below1 D4 (.cells #[.bool false, .int .i64 0, .int .i64 0] 39)).mono kb4.size)) (fun hHeld => ?_)
            clear hK K
            try simp only [Act.put, List.setIfInBounds_toArray, List.set_cons_zero, List.set_cons_succ]
            have ho := X.out.lt
            have bj := below1 D4 (.cells #[.bool false, .int .i64 0, .int .i64 0] 39)
            have kb5 := kb4.trans (bj.mono kb4.size)
            replace X := hide_ (X.out.later bj)
            have G := hide_ (AB.at0 D4 39 [.bool false, .int .i64 0, .int .i64 0])
            have lG : w1.heap.size ≤ D4.heap.size := kb4.size
            have nXG : g7 ≠ D4.heap.size := by omega
            clear ho
            clear bj
            generalize D4.alloc (.cells #[.bool false, .int .i64 0, .int .i64 0] 39) = D5 at *
            generalize D4.heap.size = g9 at *
            refine wpAnyH_ready (rs := [15]) (by kernel_rfl) (by simp) ?_
            refine AllReadyH.cons rfl (fun K hK => ?_) (AllReadyH.nil)
            obtain ⟨z0, z1, z2, z3, z4, z5, z6, z7, z8, z9, z10, z11⟩ := X.out.six
            go_simp
            refine hK.out _ _ (below_set6 kb5 lX _ _ _ _ _ _) (fun hHeld => ?_)
            clear hK K
            try simp only [Act.put, List.setIfInBounds_toArray, List.set_cons_zero, List.set_cons_succ]
            clear z0 z1 z2 z3 z4 z5 z6 z7 z8 z9 z10 z11
            replace G := hide_ (G.out.far6 (h := g7) (Ne.symm nXG) (.int .i64 f) (.bool m) (.int .u64 (a : Int)) (.int .u64 (b : Int)) (.int .u64 (c : Int)) (.int .u64 (d : Int)))
            replace X := hide_ (X.out.set6 (.int .i64 f) (.bool m) (.int .u64 (a : Int)) (.int .u64 (b : Int)) (.int .u64 (c : Int)) (.int .u64 (d : Int)))
            have kb6 := below_set6 (g := g7) kb5 lX (.int .i64 f) (.bool m) (.int .u64 (a : Int)) (.int .u64 (b : Int)) (.int .u64 (c : Int)) (.int .u64 (d : Int))
            generalize ((((((D5.setCell ⟨g7, 0, none⟩ (.int .i64 f)).setCell ⟨g7, 1, none⟩ (.bool m)).setCell ⟨g7, 2, none⟩ (.int .u64 (a : Int))).setCell ⟨g7, 3, none⟩ (.int .u64 (b : Int))).setCell ⟨g7, 4, none⟩ (.int .u64 (c : Int))).setCell ⟨g7, 5, none⟩ (.int .u64 (d : Int))) = D6 at *
            refine takeR (i := 16) (v := ?_) rfl (by kernel_rfl) (by kernel_rfl) (by kernel_rfl) (some 8) rfl (Or.inl ⟨by rfl, ?_⟩) (fun _ _ _ h => h) (by assumption) ?_
            rotate_left
            · intro w hSw; (try dsimp only at hSw); go_simp; (try with_reducible rfl)
            simp only [Act.put, List.setIfInBounds_toArray, List.set_cons_zero, List.set_cons_succ]
            refine wpAnyH_ready (rs := [17]) (by kernel_rfl) (by simp) ?_
            refine AllReadyH.cons rfl (fun K hK => ?_) (AllReadyH.nil)
            obtain ⟨z0, z1, z2, z3, z4, z5⟩ := G.out.three
            go_simp
            refine hK.out _ _ (below_set3 kb6 lG _ _ _) (fun hHeld => ?_)
            clear hK K
            try simp only [Act.put, List.setIfInBounds_toArray, List.set_cons_zero, List.set_cons_succ]
            clear z0 z1 z2 z3 z4 z5
            replace X := hide_ (X.out.far3 (h := g9) nXG (.bool false) (.int .i64 0) (.int .i64 0))
            replace G := hide_ (G.out.set3 (.bool false) (.int .i64 0) (.int .i64 0))
            have kb7 := below_set3 (g := g9) kb6 lG (.bool false) (.int .i64 0) (.int .i64 0)
            generalize (((D6.setCell ⟨g9, 0, none⟩ (.bool false)).setCell ⟨g9, 1, none⟩ (.int .i64 0)).setCell ⟨g9, 2, none⟩ (.int .i64 0)) = D7 at *
            refine wpAnyH_done (by kernel_rfl) ?_ _
            go_wp2_with fail
            go_meet
            exact ⟨g7, g9, rfl, rfl, rfl, X.out, G.out, kb7⟩
          · go_simp
            refine hK.out _ _ (kb3.trans ((below1 D3 (.cells #[.bool false, .int .i64 0, .int .i64 0] 39)).mono kb3.size)) (fun hHeld => ?_)
            clear hK K
            try simp only [Act.put, List.setIfInBounds_toArray, List.set_cons_zero, List.set_cons_succ]
            have ho := X.out.lt
            have bj := below1 D3 (.cells #[.bool false, .int .i64 0, .int .i64 0] 39)
            have kb4 := kb3.trans (bj.mono kb3.size)
            replace X := hide_ (X.out.later bj)
            replace hA := hide_ (hA.out.later bj)
            have G := hide_ (AB.at0 D3 39 [.bool false, .int .i64 0, .int .i64 0])
            have lG : w1.heap.size ≤ D3.heap.size := kb3.size
            have nXG : g7 ≠ D3.heap.size := by omega
            clear ho
            clear bj
            generalize D3.alloc (.cells #[.bool false, .int .i64 0, .int .i64 0] 39) = D4 at *
            generalize D3.heap.size = g9 at *
            refine wpAnyH_ready (rs := [8]) (by kernel_rfl) (by simp) ?_
            refine AllReadyH.cons rfl (fun K hK => ?_) (AllReadyH.nil)
            go_simp
            refine (qd1.out _ _ hA.out).mono ?_
            rintro e D5 ⟨rfl, bj⟩
            refine hK.out _ _ (kb4.trans (bj.mono kb4.size)) (fun hHeld => ?_)
            clear hK K
            try simp only [Act.put, List.setIfInBounds_toArray, List.set_cons_zero, List.set_cons_succ]
            have kb5 := kb4.trans (bj.mono kb4.size)
            replace X := hide_ (X.out.later bj)
            replace G := hide_ (G.out.later bj)
            clear bj hA
            refine takeR (i := 9) (v := ?_) rfl (by kernel_rfl) (by kernel_rfl) (by kernel_rfl) (some 22) rfl (Or.inl ⟨by rfl, ?_⟩) (fun _ _ _ h => h) (by assumption) ?_
            rotate_left
            · intro w hSw; (try dsimp only at hSw); go_simp; (try with_reducible rfl)
            simp only [Act.put, List.setIfInBounds_toArray, List.set_cons_zero, List.set_cons_succ]
            refine takeR (i := 10) (v := ?_) rfl (by kernel_rfl) (by kernel_rfl) (by kernel_rfl) (some 32) rfl (Or.inl ⟨by rfl, ?_⟩) (fun _ _ _ h => h) (by assumption) ?_
            rotate_left
            · intro w hSw; (try dsimp only at hSw); go_simp; (try with_reducible rfl)
            simp only [Act.put, List.setIfInBounds_toArray, List.set_cons_zero, List.set_cons_succ]
            refine takeR (i := 11) (v := ?_) rfl (by kernel_rfl) (by kernel_rfl) (by kernel_rfl) (some 33) rfl (Or.inl ⟨by rfl, ?_⟩) (fun _ _ _ h => h) (by assumption) ?_
            rotate_left
            · intro w hSw; (try dsimp only at hSw); go_simp; (try with_reducible rfl)
            simp only [Act.put, List.setIfInBounds_toArray, List.set_cons_zero, List.set_cons_succ]
            refine takeR (i := 12) (v := ?_) rfl (by kernel_rfl) (by kernel_rfl) (by kernel_rfl) (some 34) rfl (Or.inl ⟨by rfl, ?_⟩) (fun _ _ _ h => h) (by assumption) ?_
            rotate_left
            · intro w hSw; (try dsimp only at hSw); go_simp; (try with_reducible rfl)
            simp only [Act.put, List.setIfInBounds_toArray, List.set_cons_zero, List.set_cons_succ]
            refine wpAnyH_ready (rs := [15]) (by kernel_rfl) (by simp) ?_
            refine AllReadyH.cons rfl (fun K hK => ?_) (AllReadyH.nil)
            obtain ⟨z0, z1, z2, z3, z4, z5, z6, z7, z8, z9, z10, z11⟩ := X.out.six
            go_simp
            refine hK.out _ _ (below_set6 kb5 lX _ _ _ _ _ _) (fun hHeld => ?_)
            clear hK K
            try simp only [Act.put, List.setIfInBounds_toArray, List.set_cons_zero, List.set_cons_succ]
            clear z0 z1 z2 z3 z4 z5 z6 z7 z8 z9 z10 z11
            replace G := hide_ (G.out.far6 (h := g7) (Ne.symm nXG) (.int .i64 f) (.bool m) (.int .u64 (a : Int)) (.int .u64 (b : Int)) (.int .u64 (c : Int)) (.int .u64 (d : Int)))
            replace X := hide_ (X.out.set6 (.int .i64 f) (.bool m) (.int .u64 (a : Int)) (.int .u64 (b : Int)) (.int .u64 (c : Int)) (.int .u64 (d : Int)))
            have kb6 := below_set6 (g := g7) kb5 lX (.int .i64 f) (.bool m) (.int .u64 (a : Int)) (.int .u64 (b : Int)) (.int .u64 (c : Int)) (.int .u64 (d : Int))
            generalize ((((((D5.setCell ⟨g7, 0, none⟩ (.int .i64 f)).setCell ⟨g7, 1, none⟩ (.bool m)).setCell ⟨g7, 2, none⟩ (.int .u64 (a : Int))).setCell ⟨g7, 3, none⟩ (.int .u64 (b : Int))).setCell ⟨g7, 4, none⟩ (.int .u64 (c : Int))).setCell ⟨g7, 5, none⟩ (.int .u64 (d : Int))) = D6 at *
            refine takeR (i := 16) (v := ?_) rfl (by kernel_rfl) (by kernel_rfl) (by kernel_rfl) (some 8) rfl (Or.inl ⟨by rfl, ?_⟩) (fun _ _ _ h => h) (by assumption) ?_
            rotate_left
            · intro w hSw; (try dsimp only at hSw); go_simp; (try with_reducible rfl)
            simp only [Act.put, List.setIfInBounds_toArray, List.set_cons_zero, List.set_cons_succ]
            refine wpAnyH_ready (rs := [17]) (by kernel_rfl) (by simp) ?_
            refine AllReadyH.cons rfl (fun K hK => ?_) (AllReadyH.nil)
            obtain ⟨z0, z1, z2, z3, z4, z5⟩ := G.out.three
            go_simp
            refine hK.out _ _ (below_set3 kb6 lG _ _ _) (fun hHeld => ?_)
            clear hK K
            try simp only [Act.put, List.setIfInBounds_toArray, List.set_cons_zero, List.set_cons_succ]
            clear z0 z1 z2 z3 z4 z5
            replace X := hide_ (X.out.far3 (h := g9) nXG (.bool false) (.int .i64 0) (.int .i64 0))
            replace G := hide_ (G.out.set3 (.bool false) (.int .i64 0) (.int .i64 0))
            have kb7 := below_set3 (g := g9) kb6 lG (.bool false) (.int .i64 0) (.int .i64 0)
            generalize (((D6.setCell ⟨g9, 0, none⟩ (.bool false)).setCell ⟨g9, 1, none⟩ (.int .i64 0)).setCell ⟨g9, 2, none⟩ (.int .i64 0)) = D7 at *
            refine wpAnyH_done (by kernel_rfl) ?_ _
            go_wp2_with fail
            go_meet
            exact ⟨g7, g9, rfl, rfl, rfl, X.out, G.out, kb7⟩
        · go_simp
          refine hK.out _ _ (kb2.trans ((below1 D2 (.cells #[.bool false, .int .i64 0, .int .i64 0] 39)).mono kb2.size)) (fun hHeld => ?_)
          clear hK K
          try simp only [Act.put, List.setIfInBounds_toArray, List.set_cons_zero, List.set_cons_succ]
          have ho := X.out.lt
          have bj := below1 D2 (.cells #[.bool false, .int .i64 0, .int .i64 0] 39)
          have kb3 := kb2.trans (bj.mono kb2.size)
          replace X := hide_ (X.out.later bj)
          have nG : Hid (∀ k, rc.ownBlock = some k → k ≠ D2.heap.size) := hide_ (fun k e => Nat.ne_of_lt (own.out.lt k e).2)
          replace own := hide_ (own.out.alloc (.cells #[.bool false, .int .i64 0, .int .i64 0] 39))
          replace lC := Nat.le_trans lC bj.size
          have G := hide_ (AB.at0 D2 39 [.bool false, .int .i64 0, .int .i64 0])
          have lG : w1.heap.size ≤ D2.heap.size := kb2.size
          have nXG : g7 ≠ D2.heap.size := by omega
          clear ho
          clear bj
          generalize D2.alloc (.cells #[.bool false, .int .i64 0, .int .i64 0] 39) = D3 at *
          generalize D2.heap.size = g9 at *
          refine wpAnyH_ready (rs := [7]) (by kernel_rfl) (by simp) ?_
          refine AllReadyH.cons rfl (fun K hK => ?_) (AllReadyH.nil)
          refine step_append_ownB rfl (.tmp 24) (.tmp 29) 27 rfl bs 5 i0 Try.underlying27 HI.out.1 HI.out.2.1 HI.out.2.2.1 HI.out.2.2.2 rc L.length (u8s L) (by first | rfl | simp [Act.eval, Act.put]) own.out (.slice ao n8 cap) (l.take n8) (by first | rfl | simp [Act.eval, Act.put]) (S3.out.later kb3) H63.out lC ?_
          intro va D4 own2 hg
          refine hK.out _ _ (kb3.trans (below_grown hg w1.heap.size kb3.size (fun k e => Nat.le_trans lB (own.out.lt k e).1))) (fun hHeld => ?_)
          clear hK K
          try simp only [Act.put, List.setIfInBounds_toArray, List.set_cons_zero, List.set_cons_succ]
          have kb4 := kb3.trans (below_grown hg w1.heap.size kb3.size (fun k e => Nat.le_trans lB (own.out.lt k e).1))
          replace X := hide_ (ab_grown X.out hg nX.out)
          replace G := hide_ (ab_grown G.out hg nG.out)
          have hA := hide_ (bytes_app own2 IB.out IT.out)
          clear own2 hg own
          clear nX
          clear nG
          refine wpAnyH_ready (rs := [8]) (by kernel_rfl) (by simp) ?_
          refine AllReadyH.cons rfl (fun K hK => ?_) (AllReadyH.nil)
          go_simp
          refine (qd1.out _ _ hA.out).mono ?_
          rintro e D5 ⟨rfl, bj⟩
          refine hK.out _ _ (kb4.trans (bj.mono kb4.size)) (fun hHeld => ?_)
          clear hK K
          try simp only [Act.put, List.setIfInBounds_toArray, List.set_cons_zero, List.set_cons_succ]
          have kb5 := kb4.trans (bj.mono kb4.size)
          replace X := hide_ (X.out.later bj)
          replace G := hide_ (G.out.later bj)
          clear bj hA
          refine takeR (i := 9) (v := ?_) rfl (by kernel_rfl) (by kernel_rfl) (by kernel_rfl) (some 22) rfl (Or.inl ⟨by rfl, ?_⟩) (fun _ _ _ h => h) (by assumption) ?_
          rotate_left
          · intro w hSw; (try dsimp only at hSw); go_simp; (try with_reducible rfl)
          simp only [Act.put, List.setIfInBounds_toArray, List.set_cons_zero, List.set_cons_succ]
          refine takeR (i := 10) (v := ?_) rfl (by kernel_rfl) (by kernel_rfl) (by kernel_rfl) (some 32) rfl (Or.inl ⟨by rfl, ?_⟩) (fun _ _ _ h => h) (by assumption) ?_
          rotate_left
          · intro w hSw; (try dsimp only at hSw); go_simp; (try with_reducible rfl)
          simp only [Act.put, List.setIfInBounds_toArray, List.set_cons_zero, List.set_cons_succ]
          refine takeR (i := 11) (v := ?_) rfl (by kernel_rfl) (by kernel_rfl) (by kernel_rfl) (some 33) rfl (Or.inl ⟨by rfl, ?_⟩) (fun _ _ _ h => h) (by assumption) ?_
          rotate_left
          · intro w hSw; (try dsimp only at hSw); go_simp; (try with_reducible rfl)
          simp only [Act.put, List.setIfInBounds_toArray, List.set_cons_zero, List.set_cons_succ]
          refine takeR (i := 12) (v := ?_) rfl (by kernel_rfl) (by kernel_rfl) (by kernel_rfl) (some 34) rfl (Or.inl ⟨by rfl, ?_⟩) (fun _ _ _ h => h) (by assumption) ?_
          rotate_left
          · intro w hSw; (try dsimp only at hSw); go_simp; (try with_reducible rfl)
          simp only [Act.put, List.setIfInBounds_toArray, List.set_cons_zero, List.set_cons_succ]
          refine wpAnyH_ready (rs := [15]) (by kernel_rfl) (by simp) ?_
          refine AllReadyH.cons rfl (fun K hK => ?_) (AllReadyH.nil)
          obtain ⟨z0, z1, z2, z3, z4, z5, z6, z7, z8, z9, z10, z11⟩ := X.out.six
          go_simp
          refine hK.out _ _ (below_set6 kb5 lX _ _ _ _ _ _) (fun hHeld => ?_)
          clear hK K
          try simp only [Act.put, List.setIfInBounds_toArray, List.set_cons_zero, List.set_cons_succ]
          clear z0 z1 z2 z3 z4 z5 z6 z7 z8 z9 z10 z11
          replace G := hide_ (G.out.far6 (h := g7) (Ne.symm nXG) (.int .i64 f) (.bool m) (.int .u64 (a : Int)) (.int .u64 (b : Int)) (.int .u64 (c : Int)) (.int .u64 (d : Int)))
          replace X := hide_ (X.out.set6 (.int .i64 f) (.bool m) (.int .u64 (a : Int)) (.int .u64 (b : Int)) (.int .u64 (c : Int)) (.int .u64 (d : Int)))
          have kb6 := below_set6 (g := g7) kb5 lX (.int .i64 f) (.bool m) (.int .u64 (a : Int)) (.int .u64 (b : Int)) (.int .u64 (c : Int)) (.int .u64 (d : Int))
          generalize ((((((D5.setCell ⟨g7, 0, none⟩ (.int .i64 f)).setCell ⟨g7, 1, none⟩ (.bool m)).setCell ⟨g7, 2, none⟩ (.int .u64 (a : Int))).setCell ⟨g7, 3, none⟩ (.int .u64 (b : Int))).setCell ⟨g7, 4, none⟩ (.int .u64 (c : Int))).setCell ⟨g7, 5, none⟩ (.int .u64 (d : Int))) = D6 at *
          refine takeR (i := 16) (v := ?_) rfl (by kernel_rfl) (by kernel_rfl) (by kernel_rfl) (some 8) rfl (Or.inl ⟨by rfl, ?_⟩) (fun _ _ _ h => h) (by assumption) ?_
          rotate_left
          · intro w hSw; (try dsimp only at hSw); go_simp; (try with_reducible rfl)
          simp only [Act.put, List.setIfInBounds_toArray, List.set_cons_zero, List.set_cons_succ]
          refine wpAnyH_ready (rs := [17]) (by kernel_rfl) (by simp) ?_
          refine AllReadyH.cons rfl (fun K hK => ?_) (AllReadyH.nil)
          obtain ⟨z0, z1, z2, z3, z4, z5⟩ := G.out.three
          go_simp
          refine hK.out _ _ (below_set3 kb6 lG _ _ _) (fun hHeld => ?_)
          clear hK K
          try simp only [Act.put, List.setIfInBounds_toArray, List.set_cons_zero, List.set_cons_succ]
          clear z0 z1 z2 z3 z4 z5
          replace X := hide_ (X.out.far3 (h := g9) nXG (.bool false) (.int .i64 0) (.int .i64 0))
          replace G := hide_ (G.out.set3 (.bool false) (.int .i64 0) (.int .i64 0))
          have kb7 := below_set3 (g := g9) kb6 lG (.bool false) (.int .i64 0) (.int .i64 0)
          generalize (((D6.setCell ⟨g9, 0, none⟩ (.bool false)).setCell ⟨g9, 1, none⟩ (.int .i64 0)).setCell ⟨g9, 2, none⟩ (.int .i64 0)) = D7 at *
          refine wpAnyH_done (by kernel_rfl) ?_ _
          go_wp2_with fail
          go_meet
          exact ⟨g7, g9, rfl, rfl, rfl, X.out, G.out, kb7⟩
      · go_simp
        refine hK.out _ _ (kb1.trans ((below1 D1 (.cells #[.bool false, .int .i64 0, .int .i64 0] 39)).mono kb1.size)) (fun hHeld => ?_)
        clear hK K
        try simp only [Act.put, List.setIfInBounds_toArray, List.set_cons_zero, List.set_cons_succ]
        have ho := X.out.lt
        have bj := below1 D1 (.cells #[.bool false, .int .i64 0, .int .i64 0] 39)
        have kb2 := kb1.trans (bj.mono kb1.size)
        replace X := hide_ (X.out.later bj)
        have G := hide_ (AB.at0 D1 39 [.bool false, .int .i64 0, .int .i64 0])
        have lG : w1.heap.size ≤ D1.heap.size := kb1.size
        have nXG : g7 ≠ D1.heap.size := by omega
        clear ho
        clear bj
        generalize D1.alloc (.cells #[.bool false, .int .i64 0, .int .i64 0] 39) = D2 at *
        generalize D1.heap.size = g9 at *
        refine wpAnyH_ready (rs := [1]) (by kernel_rfl) (by simp) ?_
        refine AllReadyH.cons rfl (fun K hK => ?_) (AllReadyH.nil)
        go_simp
        refine (qc.out _ kb2).mono ?_
        rintro e D3 ⟨rc, rfl, own, bj⟩
        refine hK.out _ _ (kb2.trans (bj.mono kb2.size)) (fun hHeld => ?_)
        clear hK K
        try simp only [Act.put, List.setIfInBounds_toArray, List.set_cons_zero, List.set_cons_succ]
        have kb3 := kb2.trans (bj.mono kb2.size)
        have lB : w1.heap.size ≤ D2.heap.size := kb2.size
        replace own := hide_ own
        have lC : D2.heap.size ≤ D3.heap.size := bj.size
        have nX : Hid (∀ k, rc.ownBlock = some k → k ≠ g7) := hide_ (fun k e => by have h1 := (own.out.lt k e).1; have h2 := X.out.lt; omega)
        have nG : Hid (∀ k, rc.ownBlock = some k → k ≠ g9) := hide_ (fun k e => by have h1 := (own.out.lt k e).1; have h2 := G.out.lt; omega)
        replace X := hide_ (X.out.later bj)
        replace G := hide_ (G.out.later bj)
        clear bj
        generalize D2.heap.size = bs at *
        refine wpAnyH_ready (rs := [7]) (by kernel_rfl) (by simp) ?_
        refine AllReadyH.cons rfl (fun K hK => ?_) (AllReadyH.nil)
        refine step_append_ownB rfl (.tmp 24) (.tmp 29) 27 rfl bs 5 i0 Try.underlying27 HI.out.1 HI.out.2.1 HI.out.2.2.1 HI.out.2.2.2 rc L.length (u8s L) (by first | rfl | simp [Act.eval, Act.put]) own.out (.slice ao n8 cap) (l.take n8) (by first | rfl | simp [Act.eval, Act.put]) (S3.out.later kb3) H63.out lC ?_
        intro va D4 own2 hg
        refine hK.out _ _ (kb3.trans (below_grown hg w1.heap.size kb3.size (fun k e => Nat.le_trans lB (own.out.lt k e).1))) (fun hHeld => ?_)
        clear hK K
        try simp only [Act.put, List.setIfInBounds_toArray, List.set_cons_zero, List.set_cons_succ]
        have kb4 := kb3.trans (below_grown hg w1.heap.size kb3.size (fun k e => Nat.le_trans lB (own.out.lt k e).1))
        replace X := hide_ (ab_grown X.out hg nX.out)
        replace G := hide_ (ab_grown G.out hg nG.out)
        have hA := hide_ (bytes_app own2 IB.out IT.out)
        clear own2 hg own
        clear nX
        clear nG
        refine wpAnyH_ready (rs := [8]) (by kernel_rfl) (by simp) ?_
        refine AllReadyH.cons rfl (fun K hK => ?_) (AllReadyH.nil)
        go_simp
        refine (qd1.out _ _ hA.out).mono ?_
        rintro e D5 ⟨rfl, bj⟩
        refine hK.out _ _ (kb4.trans (bj.mono kb4.size)) (fun hHeld => ?_)
        clear hK K
        try simp only [Act.put, List.setIfInBounds_toArray, List.set_cons_zero, List.set_cons_succ]
        have kb5 := kb4.trans (bj.mono kb4.size)
        replace X := hide_ (X.out.later bj)
        replace G := hide_ (G.out.later bj)
        clear bj hA
        refine takeR (i := 9) (v := ?_) rfl (by kernel_rfl) (by kernel_rfl) (by kernel_rfl) (some 22) rfl (Or.inl ⟨by rfl, ?_⟩) (fun _ _ _ h => h) (by assumption) ?_
        rotate_left
        · intro w hSw; (try dsimp only at hSw); go_simp; (try with_reducible rfl)
        simp only [Act.put, List.setIfInBounds_toArray, List.set_cons_zero, List.set_cons_succ]
        refine takeR (i := 10) (v := ?_) rfl (by kernel_rfl) (by kernel_rfl) (by kernel_rfl) (some 32) rfl (Or.inl ⟨by rfl, ?_⟩) (fun _ _ _ h => h) (by assumption) ?_
        rotate_left
        · intro w hSw; (try dsimp only at hSw); go_simp; (try with_reducible rfl)
        simp only [Act.put, List.setIfInBounds_toArray, List.set_cons_zero, List.set_cons_succ]
        refine takeR (i := 11) (v := ?_) rfl (by kernel_rfl) (by kernel_rfl) (by kernel_rfl) (some 33) rfl (Or.inl ⟨by rfl, ?_⟩) (fun _ _ _ h => h) (by assumption) ?_
        rotate_left
        · intro w hSw; (try dsimp only at hSw); go_simp; (try with_reducible rfl)
        simp only [Act.put, List.setIfInBounds_toArray, List.set_cons_zero, List.set_cons_succ]
        refine takeR (i := 12) (v := ?_) rfl (by kernel_rfl) (by kernel_rfl) (by kernel_rfl) (some 34) rfl (Or.inl ⟨by rfl, ?_⟩) (fun _ _ _ h => h) (by assumption) ?_
        rotate_left
        · intro w hSw; (try dsimp only at hSw); go_simp; (try with_reducible rfl)
        simp only [Act.put, List.setIfInBounds_toArray, List.set_cons_zero, List.set_cons_succ]
        refine wpAnyH_ready (rs := [15]) (by kernel_rfl) (by simp) ?_
        refine AllReadyH.cons rfl (fun K hK => ?_) (AllReadyH.nil)
        obtain ⟨z0, z1, z2, z3, z4, z5, z6, z7, z8, z9, z10, z11⟩ := X.out.six
        go_simp
        refine hK.out _ _ (below_set6 kb5 lX _ _ _ _ _ _) (fun hHeld => ?_)
        clear hK K
        try simp only [Act.put, List.setIfInBounds_toArray, List.set_cons_zero, List.set_cons_succ]
        clear z0 z1 z2 z3 z4 z5 z6 z7 z8 z9 z10 z11
        replace G := hide_ (G.out.far6 (h := g7) (Ne.symm nXG) (.int .i64 f) (.bool m) (.int .u64 (a : Int)) (.int .u64 (b : Int)) (.int .u64 (c : Int)) (.int .u64 (d : Int)))
        replace X := hide_ (X.out.set6 (.int .i64 f) (.bool m) (.int .u64 (a : Int)) (.int .u64 (b : Int)) (.int .u64 (c : Int)) (.int .u64 (d : Int)))
        have kb6 := below_set6 (g := g7) kb5 lX (.int .i64 f) (.bool m) (.int .u64 (a : Int)) (.int .u64 (b : Int)) (.int .u64 (c : Int)) (.int .u64 (d : Int))
        generalize ((((((D5.setCell ⟨g7, 0, none⟩ (.int .i64 f)).setCell ⟨g7, 1, none⟩ (.bool m)).setCell ⟨g7, 2, none⟩ (.int .u64 (a : Int))).setCell ⟨g7, 3, none⟩ (.int .u64 (b : Int))).setCell ⟨g7, 4, none⟩ (.int .u64 (c : Int))).setCell ⟨g7, 5, none⟩ (.int .u64 (d : Int))) = D6 at *
        refine takeR (i := 16) (v := ?_) rfl (by kernel_rfl) (by kernel_rfl) (by kernel_rfl) (some 8) rfl (Or.inl ⟨by rfl, ?_⟩) (fun _ _ _ h => h) (by assumption) ?_
        rotate_left
        · intro w hSw; (try dsimp only at hSw); go_simp; (try with_reducible rfl)
        simp only [Act.put, List.setIfInBounds_toArray, List.set_cons_zero, List.set_cons_succ]
        refine wpAnyH_ready (rs := [17]) (by kernel_rfl) (by simp) ?_
        refine AllReadyH.cons rfl (fun K hK => ?_) (AllReadyH.nil)
        obtain ⟨z0, z1, z2, z3, z4, z5⟩ := G.out.three
        go_simp
        refine hK.out _ _ (below_set3 kb6 lG _ _ _) (fun hHeld => ?_)
        clear hK K
        try simp only [Act.put, List.setIfInBounds_toArray, List.set_cons_zero, List.set_cons_succ]
        clear z0 z1 z2 z3 z4 z5
        replace X := hide_ (X.out.far3 (h := g9) nXG (.bool false) (.int .i64 0) (.int .i64 0))
        replace G := hide_ (G.out.set3 (.bool false) (.int .i64 0) (.int .i64 0))
        have kb7 := below_set3 (g := g9) kb6 lG (.bool false) (.int .i64 0) (.int .i64 0)
        generalize (((D6.setCell ⟨g9, 0, none⟩ (.bool false)).setCell ⟨g9, 1, none⟩ (.int .i64 0)).setCell ⟨g9, 2, none⟩ (.int .i64 0)) = D7 at *
        refine wpAnyH_done (by kernel_rfl) ?_ _
        go_wp2_with fail
        go_meet
        exact ⟨g7, g9, rfl, rfl, rfl, X.out, G.out, kb7⟩
    · go_simp
      refine hK.out _ _ (kb0.trans ((below1 D0 (.cells #[.bool false, .int .i64 0, .int .i64 0] 39)).mono kb0.size)) (fun hHeld => ?_)
      clear hK K
      try simp only [Act.put, List.setIfInBounds_toArray, List.set_cons_zero, List.set_cons_succ]
      have bj := below1 D0 (.cells #[.bool false, .int .i64 0, .int .i64 0] 39)
      have kb1 := kb0.trans (bj.mono kb0.size)
      have G := hide_ (AB.at0 D0 39 [.bool false, .int .i64 0, .int .i64 0])
      have lG : w1.heap.size ≤ D0.heap.size := kb0.size
      clear bj
      generalize D0.alloc (.cells #[.bool false, .int .i64 0, .int .i64 0] 39) = D1 at *
      generalize D0.heap.size = g9 at *
      refine wpAnyH_ready (rs := [1, 13]) (by kernel_rfl) (by simp) ?_
      refine AllReadyH.cons rfl (fun K hK => ?_) (AllReadyH.cons rfl (fun K hK => ?_) (AllReadyH.nil))
      · go_simp
        refine (qc.out _ kb1).mono ?_
        rintro e D2 ⟨rc, rfl, own, bj⟩
        refine hK.out _ _ (kb1.trans (bj.mono kb1.size)) (fun hHeld => ?_)
        clear hK K
        try simp only [Act.put, List.setIfInBounds_toArray, List.set_cons_zero, List.set_cons_succ]
        have kb2 := kb1.trans (bj.mono kb1.size)
        have lB : w1.heap.size ≤ D1.heap.size := kb1.size
        replace own := hide_ own
        have lC : D1.heap.size ≤ D2.heap.size := bj.size
        have nG : Hid (∀ k, rc.ownBlock = some k → k ≠ g9) := hide_ (fun k e => by have h1 := (own.out.lt k e).1; have h2 := G.out.lt; omega)
        replace G := hide_ (G.out.later bj)
        clear bj
        generalize D1.heap.size = bs at *
        refine wpAnyH_ready (rs := [7, 13]) (by kernel_rfl) (by simp) ?_
        refine AllReadyH.cons rfl (fun K hK => ?_) (AllReadyH.cons rfl (fun K hK => ?_) (AllReadyH.nil))
        · refine step_append_ownB rfl (.tmp 24) (.tmp 29) 27 rfl bs 5 i0 Try.underlying27 HI.out.1 HI.out.2.1 HI.out.2.2.1 HI.out.2.2.2 rc L.length (u8s L) (by first | rfl | simp [Act.eval, Act.put]) own.out (.slice ao n8 cap) (l.take n8) (by first | rfl | simp [Act.eval, Act.put]) (S3.out.later kb2) H63.out lC ?_
          intro va D3 own2 hg
          refine hK.out _ _ (kb2.trans (below_grown hg w1.heap.size kb2.size (fun k e => Nat.le_trans lB (own.out.lt k e).1))) (fun hHeld => ?_)
          clear hK K
          try simp only [Act.put, List.setIfInBounds_toArray, List.set_cons_zero, List.set_cons_succ]
          have kb3 := kb2.trans (below_grown hg w1.heap.size kb2.size (fun k e => Nat.le_trans lB (own.out.lt k e).1))
          replace G := hide_ (ab_grown G.out hg nG.out)
          have hA := hide_ (bytes_app own2 IB.out IT.out)
          clear own2 hg own
          clear nG
          refine wpAnyH_ready (rs := [8, 13]) (by kernel_rfl) (by simp) ?_
          refine AllReadyH.cons rfl (fun K hK => ?_) (AllReadyH.cons rfl (fun K hK => ?_) (AllReadyH.nil))
          · go_simp
            refine (qd1.out _ _ hA.out).mono ?_
            rintro e D4 ⟨rfl, bj⟩
            refine hK.out _ _ (kb3.trans (bj.mono kb3.size)) (fun hHeld => ?_)
            clear hK K
            try simp only [Act.put, List.setIfInBounds_toArray, List.set_cons_zero, List.set_cons_succ]
            have kb4 := kb3.trans (bj.mono kb3.size)
            replace G := hide_ (G.out.later bj)
            clear bj hA
            refine takeR (i := 9) (v := ?_) rfl (by kernel_rfl) (by kernel_rfl) (by kernel_rfl) (some 22) rfl (Or.inl ⟨by rfl, ?_⟩) (fun _ _ _ h => h) (by assumption) ?_
            rotate_left
            · intro w hSw; (try dsimp only at hSw); go_simp; (try with_reducible rfl)
            simp only [Act.put, List.setIfInBounds_toArray, List.set_cons_zero, List.set_cons_succ]
            refine takeR (i := 10) (v := ?_) rfl (by kernel_rfl) (by kernel_rfl) (by kernel_rfl) (some 32) rfl (Or.inl ⟨by rfl, ?_⟩) (fun _ _ _ h => h) (by assumption) ?_
            rotate_left
            · intro w hSw; (try dsimp only at hSw); go_simp; (try with_reducible rfl)
            simp only [Act.put, List.setIfInBounds_toArray, List.set_cons_zero, List.set_cons_succ]
            refine takeR (i := 11) (v := ?_) rfl (by kernel_rfl) (by kernel_rfl) (by kernel_rfl) (some 33) rfl (Or.inl ⟨by rfl, ?_⟩) (fun _ _ _ h => h) (by assumption) ?_
            rotate_left
            · intro w hSw; (try dsimp only at hSw); go_simp; (try with_reducible rfl)
            simp only [Act.put, List.setIfInBounds_toArray, List.set_cons_zero, List.set_cons_succ]
            refine takeR (i := 12) (v := ?_) rfl (by kernel_rfl) (by kernel_rfl) (by kernel_rfl) (some 34) rfl (Or.inl ⟨by rfl, ?_⟩) (fun _ _ _ h => h) (by assumption) ?_
            rotate_left
            · intro w hSw; (try dsimp only at hSw); go_simp; (try with_reducible rfl)
            simp only [Act.put, List.setIfInBounds_toArray, List.set_cons_zero, List.set_cons_succ]
            refine wpAnyH_ready (rs := [13]) (by kernel_rfl) (by simp) ?_
            refine AllReadyH.cons rfl (fun K hK => ?_) (AllReadyH.nil)
            go_simp
            refine hK.out _ _ (kb4.trans ((below1 D4 (.cells #[.int .i64 0, .bool false, .int .u64 0, .int .u64 0, .int .u64 0, .int .u64 0] 26)).mono kb4.size)) (fun hHeld => ?_)
            clear hK K
            try simp only [Act.put, List.setIfInBounds_toArray, List.set_cons_zero, List.set_cons_succ]
            have ho := G.out.lt
            have bj := below1 D4 (.cells #[.int .i64 0, .bool false, .int .u64 0, .int .u64 0, .int .u64 0, .int .u64 0] 26)
            have kb5 := kb4.trans (bj.mono kb4.size)
            replace G := hide_ (G.out.later bj)
            have X := hide_ (AB.at0 D4 26 [.int .i64 0, .bool false, .int .u64 0, .int .u64 0, .int .u64 0, .int .u64 0])
            have lX : w1.heap.size ≤ D4.heap.size := kb4.size
            have nXG : D4.heap.size ≠ g9 := by omega
            clear ho
            clear bj
            generalize D4.alloc (.cells #[.int .i64 0, .bool false, .int .u64 0, .int .u64 0, .int .u64 0, .int .u64 0] 26) = D5 at *
            generalize D4.heap.size = g7 at *
            refine wpAnyH_ready (rs := [15]) (by kernel_rfl) (by simp) ?_
            refine AllReadyH.cons rfl (fun K hK => ?_) (AllReadyH.nil)
            obtain ⟨z0, z1, z2, z3, z4, z5, z6, z7, z8, z9, z10, z11⟩ := X.out.six
            go_simp
            refine hK.out _ _ (below_set6 kb5 lX _ _ _ _ _ _) (fun hHeld => ?_)
            clear hK K
            try simp only [Act.put, List.setIfInBounds_toArray, List.set_cons_zero, List.set_cons_succ]
            clear z0 z1 z2 z3 z4 z5 z6 z7 z8 z9 z10 z11
            replace G := hide_ (G.out.far6 (h := g7) (Ne.symm nXG) (.int .i64 f) (.bool m) (.int .u64 (a : Int)) (.int .u64 (b : Int)) (.int .u64 (c : Int)) (.int .u64 (d : Int)))
            replace X := hide_ (X.out.set6 (.int .i64 f) (.bool m) (.int .u64 (a : Int)) (.int .u64 (b : Int)) (.int .u64 (c : Int)) (.int .u64 (d : Int)))
            have kb6 := below_set6 (g := g7) kb5 lX (.int .i64 f) (.bool m) (.int .u64 (a : Int)) (.int .u64 (b : Int)) (.int .u64 (c : Int)) (.int .u64 (d : Int))
            generalize ((((((D5.setCell ⟨g7, 0, none⟩ (.int .i64 f)).setCell ⟨g7, 1, none⟩ (.bool m)).setCell ⟨g7, 2, none⟩ (.int .u64 (a : Int))).setCell ⟨g7, 3, none⟩ (.int .u64 (b : Int))).setCell ⟨g7, 4, none⟩ (.int .u64 (c : Int))).setCell ⟨g7, 5, none⟩ (.int .u64 (d : Int))) = D6 at *
            refine takeR (i := 16) (v := ?_) rfl (by kernel_rfl) (by kernel_rfl) (by kernel_rfl) (some 8) rfl (Or.inl ⟨by rfl, ?_⟩) (fun _ _ _ h => h) (by assumption) ?_
            rotate_left
            · intro w hSw; (try dsimp only at hSw); go_simp; (try with_reducible rfl)
            simp only [Act.put, List.setIfInBounds_toArray, List.set_cons_zero, List.set_cons_succ]
            refine wpAnyH_ready (rs := [17]) (by kernel_rfl) (by simp) ?_
            refine AllReadyH.cons rfl (fun K hK => ?_) (AllReadyH.nil)
            obtain ⟨z0, z1, z2, z3, z4, z5⟩ := G.out.three
            go_simp
            refine hK.out _ _ (below_set3 kb6 lG _ _ _) (fun hHeld => ?_)
            clear hK K
            try simp only [Act.put, List.setIfInBounds_toArray, List.set_cons_zero, List.set_cons_succ]
            clear z0 z1 z2 z3 z4 z5
            replace X := hide_ (X.out.far3 (h := g9) nXG (.bool false) (.int .i64 0) (.int .i64 0))
            replace G := hide_ (G.out.set3 (.bool false) (.int .i64 0) (.int .i64 0))
            have kb7 := below_set3 (g := g9) kb6 lG (.bool false) (.int .i64 0) (.int .i64 0)
            generalize (((D6.setCell ⟨g9, 0, none⟩ (.bool false)).setCell ⟨g9, 1, none⟩ (.int .i64 0)).setCell ⟨g9, 2, none⟩ (.int .i64 0)) = D7 at *
            refine wpAnyH_done (by kernel_rfl) ?_ _
            go_wp2_with fail
            go_meet
            exact ⟨g7, g9, rfl, rfl, rfl, X.out, G.out, kb7⟩
          · go_simp
            refine hK.out _ _ (kb3.trans ((below1 D3 (.cells #[.int .i64 0, .bool false, .int .u64 0, .int .u64 0, .int .u64 0, .int .u64 0] 26)).mono kb3.size)) (fun hHeld => ?_)
            clear hK K
            try simp only [Act.put, List.setIfInBounds_toArray, List.set_cons_zero, List.set_cons_succ]
            have ho := G.out.lt
            have bj := below1 D3 (.cells #[.int .i64 0, .bool false, .int .u64 0, .int .u64 0, .int .u64 0, .int .u64 0] 26)
            have kb4 := kb3.trans (bj.mono kb3.size)
            replace G := hide_ (G.out.later bj)
            replace hA := hide_ (hA.out.later bj)
            have X := hide_ (AB.at0 D3 26 [.int .i64 0, .bool false, .int .u64 0, .int .u64 0, .int .u64 0, .int .u64 0])
            have lX : w1.heap.size ≤ D3.heap.size := kb3.size
            have nXG : D3.heap.size ≠ g9 := by omega
            clear ho
            clear bj
            generalize D3.alloc (.cells #[.int .i64 0, .bool false, .int .u64 0, .int .u64 0, .int .u64 0, .int .u64 0] 26) = D4 at *
            generalize D3.heap.size = g7 at *
            refine wpAnyH_ready (rs := [8]) (by kernel_rfl) (by simp) ?_
            refine AllReadyH.cons rfl (fun K hK => ?_) (AllReadyH.nil)
            go_simp
            refine (qd1.out _ _ hA.out).mono ?_
            rintro e D5 ⟨rfl, bj⟩
            refine hK.out _ _ (kb4.trans (bj.mono kb4.size)) (fun hHeld => ?_)
            clear hK K
            try simp only [Act.put, List.setIfInBounds_toArray, List.set_cons_zero, List.set_cons_succ]
            have kb5 := kb4.trans (bj.mono kb4.size)
            replace X := hide_ (X.out.later bj)
            replace G := hide_ (G.out.later bj)
            clear bj hA
            refine takeR (i := 9) (v := ?_) rfl (by kernel_rfl) (by kernel_rfl) (by kernel_rfl) (some 22) rfl (Or.inl ⟨by rfl, ?_⟩) (fun _ _ _ h => h) (by assumption) ?_
            rotate_left
            · intro w hSw; (try dsimp only at hSw); go_simp; (try with_reducible rfl)
            simp only [Act.put, List.setIfInBounds_toArray, List.set_cons_zero, List.set_cons_succ]
            refine takeR (i := 10) (v := ?_) rfl (by kernel_rfl) (by kernel_rfl) (by kernel_rfl) (some 32) rfl (Or.inl ⟨by rfl, ?_⟩) (fun _ _ _ h => h) (by assumption) ?_
            rotate_left
            · intro w hSw; (try dsimp only at hSw); go_simp; (try with_reducible rfl)
            simp only [Act.put, List.setIfInBounds_toArray, List.set_cons_zero, List.set_cons_succ]
            refine takeR (i := 11) (v := ?_) rfl (by kernel_rfl) (by kernel_rfl) (by kernel_rfl) (some 33) rfl (Or.inl ⟨by rfl, ?_⟩) (fun _ _ _ h => h) (by assumption) ?_
            rotate_left
            · intro w hSw; (try dsimp only at hSw); go_simp; (try with_reducible rfl)
            simp only [Act.put, List.setIfInBounds_toArray, List.set_cons_zero, List.set_cons_succ]
            refine takeR (i := 12) (v := ?_) rfl (by kernel_rfl) (by kernel_rfl) (by kernel_rfl) (some 34) rfl (Or.inl ⟨by rfl, ?_⟩) (fun _ _ _ h => h) (by assumption) ?_
            rotate_left
            · intro w hSw; (try dsimp only at hSw); go_simp; (try with_reducible rfl)
            simp only [Act.put, List.setIfInBounds_toArray, List.set_cons_zero, List.set_cons_succ]
            refine wpAnyH_ready (rs := [15]) (by kernel_rfl) (by simp) ?_
            refine AllReadyH.cons rfl (fun K hK => ?_) (AllReadyH.nil)
            obtain ⟨z0, z1, z2, z3, z4, z5, z6, z7, z8, z9, z10, z11⟩ := X.out.six
            go_simp
            refine hK.out _ _ (below_set6 kb5 lX _ _ _ _ _ _) (fun hHeld => ?_)
            clear hK K
            try simp only [Act.put, List.setIfInBounds_toArray, List.set_cons_zero, List.set_cons_succ]
            clear z0 z1 z2 z3 z4 z5 z6 z7 z8 z9 z10 z11
            replace G := hide_ (G.out.far6 (h := g7) (Ne.symm nXG) (.int .i64 f) (.bool m) (.int .u64 (a : Int)) (.int .u64 (b : Int)) (.int .u64 (c : Int)) (.int .u64 (d : Int)))
            replace X := hide_ (X.out.set6 (.int .i64 f) (.bool m) (.int .u64 (a : Int)) (.int .u64 (b : Int)) (.int .u64 (c : Int)) (.int .u64 (d : Int)))
            have kb6 := below_set6 (g := g7) kb5 lX (.int .i64 f) (.bool m) (.int .u64 (a : Int)) (.int .u64 (b : Int)) (.int .u64 (c : Int)) (.int .u64 (d : Int))
            generalize ((((((D5.setCell ⟨g7, 0, none⟩ (.int .i64 f)).setCell ⟨g7, 1, none⟩ (.bool m)).setCell ⟨g7, 2, none⟩ (.int .u64 (a : Int))).setCell ⟨g7, 3, none⟩ (.int .u64 (b : Int))).setCell ⟨g7, 4, none⟩ (.int .u64 (c : Int))).setCell ⟨g7, 5, none⟩ (.int .u64 (d : Int))) = D6 at *
            refine takeR (i := 16) (v := ?_) rfl (by kernel_rfl) (by kernel_rfl) (by kernel_rfl) (some 8) rfl (Or.inl ⟨by rfl, ?_⟩) (fun _ _ _ h => h) (by assumption) ?_
            rotate_left
            · intro w hSw; (try dsimp only at hSw); go_simp; (try with_reducible rfl)
            simp only [Act.put, List.setIfInBounds_toArray, List.set_cons_zero, List.set_cons_succ]
            refine wpAnyH_ready (rs := [17]) (by kernel_rfl) (by simp) ?_
            refine AllReadyH.cons rfl (fun K hK => ?_) (AllReadyH.nil)
            obtain ⟨z0, z1, z2, z3, z4, z5⟩ := G.out.three
            go_simp
            refine hK.out _ _ (below_set3 kb6 lG _ _ _) (fun hHeld => ?_)
            clear hK K
            try simp only [Act.put, List.setIfInBounds_toArray, List.set_cons_zero, List.set_cons_succ]
            clear z0 z1 z2 z3 z4 z5
            replace X := hide_ (X.out.far3 (h := g9) nXG (.bool false) (.int .i64 0) (.int .i64 0))
            replace G := hide_ (G.out.set3 (.bool false) (.int .i64 0) (.int .i64 0))
            have kb7 := below_set3 (g := g9) kb6 lG (.bool false) (.int .i64 0) (.int .i64 0)
            generalize (((D6.setCell ⟨g9, 0, none⟩ (.bool false)).setCell ⟨g9, 1, none⟩ (.int .i64 0)).setCell ⟨g9, 2, none⟩ (.int .i64 0)) = D7 at *
            refine wpAnyH_done (by kernel_rfl) ?_ _
            go_wp2_with fail
            go_meet
            exact ⟨g7, g9, rfl, rfl, rfl, X.out, G.out, kb7⟩
        · go_simp
          refine hK.out _ _ (kb2.trans ((below1 D2 (.cells #[.int .i64 0, .bool false, .int .u64 0, .int .u64 0, .int .u64 0, .int .u64 0] 26)).mono kb2.size)) (fun hHeld => ?_)
          clear hK K
          try simp only [Act.put, List.setIfInBounds_toArray, List.set_cons_zero, List.set_cons_succ]
          have ho := G.out.lt
          have bj := below1 D2 (.cells #[.int .i64 0, .bool false, .int .u64 0, .int .u64 0, .int .u64 0, .int .u64 0] 26)
          have kb3 := kb2.trans (bj.mono kb2.size)
          replace G := hide_ (G.out.later bj)
          have nX : Hid (∀ k, rc.ownBlock = some k → k ≠ D2.heap.size) := hide_ (fun k e => Nat.ne_of_lt (own.out.lt k e).2)
          replace own := hide_ (own.out.alloc (.cells #[.int .i64 0, .bool false, .int .u64 0, .int .u64 0, .int .u64 0, .int .u64 0] 26))
          replace lC := Nat.le_trans lC bj.size
          have X := hide_ (AB.at0 D2 26 [.int .i64 0, .bool false, .int .u64 0, .int .u64 0, .int .u64 0, .int .u64 0])
          have lX : w1.heap.size ≤ D2.heap.size := kb2.size
          have nXG : D2.heap.size ≠ g9 := by omega
          clear ho
          clear bj
          generalize D2.alloc (.cells #[.int .i64 0, .bool false, .int .u64 0, .int .u64 0, .int .u64 0, .int .u64 0] 26) = D3 at *
          generalize D2.heap.size = g7 at *
          refine wpAnyH_ready (rs := [7]) (by kernel_rfl) (by simp) ?_
          refine AllReadyH.cons rfl (fun K hK => ?_) (AllReadyH.nil)
          refine step_append_ownB rfl (.tmp 24) (.tmp 29) 27 rfl bs 5 i0 Try.underlying27 HI.out.1 HI.out.2.1 HI.out.2.2.1 HI.out.2.2.2 rc L.length (u8s L) (by first | rfl | simp [Act.eval, Act.put]) own.out (.slice ao n8 cap) (l.take n8) (by first | rfl | simp [Act.eval, Act.put]) (S3.out.later kb3) H63.out lC ?_
          intro va D4 own2 hg
          refine hK.out _ _ (kb3.trans (below_grown hg w1.heap.size kb3.size (fun k e => Nat.le_trans lB (own.out.lt k e).1))) (fun hHeld => ?_)
          clear hK K
          try simp only [Act.put, List.setIfInBounds_toArray, List.set_cons_zero, List.set_cons_succ]
          have kb4 := kb3.trans (below_grown hg w1.heap.size kb3.size (fun k e => Nat.le_trans lB (own.out.lt k e).1))
          replace X := hide_ (ab_grown X.out hg nX.out)
          replace G := hide_ (ab_grown G.out hg nG.out)
          have hA := hide_ (bytes_app own2 IB.out IT.out)
          clear own2 hg own
          clear nX
          clear nG
          refine wpAnyH_ready (rs := [8]) (by kernel_rfl) (by simp) ?_
          refine AllReadyH.cons rfl (fun K hK => ?_) (AllReadyH.nil)
          go_simp
          refine (qd1.out _ _ hA.out).mono ?_
          rintro e D5 ⟨rfl, bj⟩
          refine hK.out _ _ (kb4.trans (bj.mono kb4.size)) (fun hHeld => ?_)
          clear hK K
          try simp only [Act.put, List.setIfInBounds_toArray, List.set_cons_zero, List.set_cons_succ]
          have kb5 := kb4.trans (bj.mono kb4.size)
          replace X := hide_ (X.out.later bj)
          replace G := hide_ (G.out.later bj)
          clear bj hA
          refine takeR (i := 9) (v := ?_) rfl (by kernel_rfl) (by kernel_rfl) (by kernel_rfl) (some 22) rfl (Or.inl ⟨by rfl, ?_⟩) (fun _ _ _ h => h) (by assumption) ?_
          rotate_left
          · intro w hSw; (try dsimp only at hSw); go_simp; (try with_reducible rfl)
          simp only [Act.put, List.setIfInBounds_toArray, List.set_cons_zero, List.set_cons_succ]
          refine takeR (i := 10) (v := ?_) rfl (by kernel_rfl) (by kernel_rfl) (by kernel_rfl) (some 32) rfl (Or.inl ⟨by rfl, ?_⟩) (fun _ _ _ h => h) (by assumption) ?_
          rotate_left
          · intro w hSw; (try dsimp only at hSw); go_simp; (try with_reducible rfl)
          simp only [Act.put, List.setIfInBounds_toArray, List.set_cons_zero, List.set_cons_succ]
          refine takeR (i := 11) (v := ?_) rfl (by kernel_rfl) (by kernel_rfl) (by kernel_rfl) (some 33) rfl (Or.inl ⟨by rfl, ?_⟩) (fun _ _ _ h => h) (by assumption) ?_
          rotate_left
          · intro w hSw; (try dsimp only at hSw); go_simp; (try with_reducible rfl)
          simp only [Act.put, List.setIfInBounds_toArray, List.set_cons_zero, List.set_cons_succ]
          refine takeR (i := 12) (v := ?_) rfl (by kernel_rfl) (by kernel_rfl) (by kernel_rfl) (some 34) rfl (Or.inl ⟨by rfl, ?_⟩) (fun _ _ _ h => h) (by assumption) ?_
          rotate_left
          · intro w hSw; (try dsimp only at hSw); go_simp; (try with_reducible rfl)
          simp only [Act.put, List.setIfInBounds_toArray, List.set_cons_zero, List.set_cons_succ]
          refine wpAnyH_ready (rs := [15]) (by kernel_rfl) (by simp) ?_
          refine AllReadyH.cons rfl (fun K hK => ?_) (AllReadyH.nil)
          obtain ⟨z0, z1, z2, z3, z4, z5, z6, z7, z8, z9, z10, z11⟩ := X.out.six
          go_simp
          refine hK.out _ _ (below_set6 kb5 lX _ _ _ _ _ _) (fun hHeld => ?_)
          clear hK K
          try simp only [Act.put, List.setIfInBounds_toArray, List.set_cons_zero, List.set_cons_succ]
          clear z0 z1 z2 z3 z4 z5 z6 z7 z8 z9 z10 z11
          replace G := hide_ (G.out.far6 (h := g7) (Ne.symm nXG) (.int .i64 f) (.bool m) (.int .u64 (a : Int)) (.int .u64 (b : Int)) (.int .u64 (c : Int)) (.int .u64 (d : Int)))
          replace X := hide_ (X.out.set6 (.int .i64 f) (.bool m) (.int .u64 (a : Int)) (.int .u64 (b : Int)) (.int .u64 (c : Int)) (.int .u64 (d : Int)))
          have kb6 := below_set6 (g := g7) kb5 lX (.int .i64 f) (.bool m) (.int .u64 (a : Int)) (.int .u64 (b : Int)) (.int .u64 (c : Int)) (.int .u64 (d : Int))
          generalize ((((((D5.setCell ⟨g7, 0, none⟩ (.int .i64 f)).setCell ⟨g7, 1, none⟩ (.bool m)).setCell ⟨g7, 2, none⟩ (.int .u64 (a : Int))).setCell ⟨g7, 3, none⟩ (.int .u64 (b : Int))).setCell ⟨g7, 4, none⟩ (.int .u64 (c : Int))).setCell ⟨g7, 5, none⟩ (.int .u64 (d : Int))) = D6 at *
          refine takeR (i := 16) (v := ?_) rfl (by kernel_rfl) (by kernel_rfl) (by kernel_rfl) (some 8) rfl (Or.inl ⟨by rfl, ?_⟩) (fun _ _ _ h => h) (by assumption) ?_
          rotate_left
          · intro w hSw; (try dsimp only at hSw); go_simp; (try with_reducible rfl)
          simp only [Act.put, List.setIfInBounds_toArray, List.set_cons_zero, List.set_cons_succ]
          refine wpAnyH_ready (rs := [17]) (by kernel_rfl) (by simp) ?_
          refine AllReadyH.cons rfl (fun K hK => ?_) (AllReadyH.nil)
          obtain ⟨z0, z1, z2, z3, z4, z5⟩ := G.out.three
          go_simp
          refine hK.out _ _ (below_set3 kb6 lG _ _ _) (fun hHeld => ?_)
          clear hK K
          try simp only [Act.put, List.setIfInBounds_toArray, List.set_cons_zero, List.set_cons_succ]
          clear z0 z1 z2 z3 z4 z5
          replace X := hide_ (X.out.far3 (h := g9) nXG (.bool false) (.int .i64 0) (.int .i64 0))
          replace G := hide_ (G.out.set3 (.bool false) (.int .i64 0) (.int .i64 0))
          have kb7 := below_set3 (g := g9) kb6 lG (.bool false) (.int .i64 0) (.int .i64 0)
          generalize (((D6.setCell ⟨g9, 0, none⟩ (.bool false)).setCell ⟨g9, 1, none⟩ (.int .i64 0)).setCell ⟨g9, 2, none⟩ (.int .i64 0)) = D7 at *
          refine wpAnyH_done (by kernel_rfl) ?_ _
          go_wp2_with fail
          go_meet
          exact ⟨g7, g9, rfl, rfl, rfl, X.out, G.out, kb7⟩
      · go_simp
        refine hK.out _ _ (kb1.trans ((below1 D1 (.cells #[.int .i64 0, .bool false, .int .u64 0, .int .u64 0, .int .u64 0, .int .u64 0] 26)).mono kb1.size)) (fun hHeld => ?_)
        clear hK K
        try simp only [Act.put, List.setIfInBounds_toArray, List.set_cons_zero, List.set_cons_succ]
        have ho := G.out.lt
        have bj := below1 D1 (.cells #[.int .i64 0, .bool false, .int .u64 0, .int .u64 0, .int .u64 0, .int .u64 0] 26)
        have kb2 := kb1.trans (bj.mono kb1.size)
        replace G := hide_ (G.out.later bj)
        have X := hide_ (AB.at0 D1 26 [.int .i64 0, .bool false, .int .u64 0, .int .u64 0, .int .u64 0, .int .u64 0])
        have lX : w1.heap.size ≤ D1.heap.size := kb1.size
        have nXG : D1.heap.size ≠ g9 := by omega
        clear ho
        clear bj
        generalize D1.alloc (.cells #[.int .i64 0, .bool false, .int .u64 0, .int .u64 0, .int .u64 0, .int .u64 0] 26) = D2 at *
        generalize D1.heap.size = g7 at *
        refine wpAnyH_ready (rs := [1]) (by kernel_rfl) (by simp) ?_
        refine AllReadyH.cons rfl (fun K hK => ?_) (AllReadyH.nil)
        go_simp
        refine (qc.out _ kb2).mono ?_
        rintro e D3 ⟨rc, rfl, own, bj⟩
        refine hK.out _ _ (kb2.trans (bj.mono kb2.size)) (fun hHeld => ?_)
        clear hK K
        try simp only [Act.put, List.setIfInBounds_toArray, List.set_cons_zero, List.set_cons_succ]
        have kb3 := kb2.trans (bj.mono kb2.size)
        have lB : w1.heap.size ≤ D2.heap.size := kb2.size
        replace own := hide_ own
        have lC : D2.heap.size ≤ D3.heap.size := bj.size
        have nX : Hid (∀ k, rc.ownBlock = some k → k ≠ g7) := hide_ (fun k e => by have h1 := (own.out.lt k e).1; have h2 := X.out.lt; omega)
        have nG : Hid (∀ k, rc.ownBlock = some k → k ≠ g9) := hide_ (fun k e => by have h1 := (own.out.lt k e).1; have h2 := G.out.lt; omega)
        replace X := hide_ (X.out.later bj)
        replace G := hide_ (G.out.later bj)
        clear bj
        generalize D2.heap.size = bs at *
        refine wpAnyH_ready (rs := [7]) (by kernel_rfl) (by simp) ?_
        refine AllReadyH.cons rfl (fun K hK => ?_) (AllReadyH.nil)
        refine step_append_ownB rfl (.tmp 24) (.tmp 29) 27 rfl bs 5 i0 Try.underlying27 HI.out.1 HI.out.2.1 HI.out.2.2.1 HI.out.2.2.2 rc L.length (u8s L) (by first | rfl | simp [Act.eval, Act.put]) own.out (.slice ao n8 cap) (l.take n8) (by first | rfl | simp [Act.eval, Act.put]) (S3.out.later kb3) H63.out lC ?_
        intro va D4 own2 hg
        refine hK.out _ _ (kb3.trans (below_grown hg w1.heap.size kb3.size (fun k e => Nat.le_trans lB (own.out.lt k e).1))) (fun hHeld => ?_)
        clear hK K
        try simp only [Act.put, List.setIfInBounds_toArray, List.set_cons_zero, List.set_cons_succ]
        have kb4 := kb3.trans (below_grown hg w1.heap.size kb3.size (fun k e => Nat.le_trans lB (own.out.lt k e).1))
        replace X := hide_ (ab_grown X.out hg nX.out)
        replace G := hide_ (ab_grown G.out hg nG.out)
        have hA := hide_ (bytes_app own2 IB.out IT.out)
        clear own2 hg own
        clear nX
        clear nG
        refine wpAnyH_ready (rs := [8]) (by kernel_rfl) (by simp) ?_
        refine AllReadyH.cons rfl (fun K hK => ?_) (AllReadyH.nil)
        go_simp
        refine (qd1.out _ _ hA.out).mono ?_
        rintro e D5 ⟨rfl, bj⟩
        refine hK.out _ _ (kb4.trans (bj.mono kb4.size)) (fun hHeld => ?_)
        clear hK K
        try simp only [Act.put, List.setIfInBounds_toArray, List.set_cons_zero, List.set_cons_succ]
        have kb5 := kb4.trans (bj.mono kb4.size)
        replace X := hide_ (X.out.later bj)
        replace G := hide_ (G.out.later bj)
        clear bj hA
        refine takeR (i := 9) (v := ?_) rfl (by kernel_rfl) (by kernel_rfl) (by kernel_rfl) (some 22) rfl (Or.inl ⟨by rfl, ?_⟩) (fun _ _ _ h => h) (by assumption) ?_
        rotate_left
        · intro w hSw; (try dsimp only at hSw); go_simp; (try with_reducible rfl)
        simp only [Act.put, List.setIfInBounds_toArray, List.set_cons_zero, List.set_cons_succ]
        refine takeR (i := 10) (v := ?_) rfl (by kernel_rfl) (by kernel_rfl) (by kernel_rfl) (some 32) rfl (Or.inl ⟨by rfl, ?_⟩) (fun _ _ _ h => h) (by assumption) ?_
        rotate_left
        · intro w hSw; (try dsimp only at hSw); go_simp; (try with_reducible rfl)
        simp only [Act.put, List.setIfInBounds_toArray, List.set_cons_zero, List.set_cons_succ]
        refine takeR (i := 11) (v := ?_) rfl (by kernel_rfl) (by kernel_rfl) (by kernel_rfl) (some 33) rfl (Or.inl ⟨by rfl, ?_⟩) (fun _ _ _ h => h) (by assumption) ?_
        rotate_left
        · intro w hSw; (try dsimp only at hSw); go_simp; (try with_reducible rfl)
        simp only [Act.put, List.setIfInBounds_toArray, List.set_cons_zero, List.set_cons_succ]
        refine takeR (i := 12) (v := ?_) rfl (by kernel_rfl) (by kernel_rfl) (by kernel_rfl) (some 34) rfl (Or.inl ⟨by rfl, ?_⟩) (fun _ _ _ h => h) (by assumption) ?_
        rotate_left
        · intro w hSw; (try dsimp only at hSw); go_simp; (try with_reducible rfl)
        simp only [Act.put, List.setIfInBounds_toArray, List.set_cons_zero, List.set_cons_succ]
        refine wpAnyH_ready (rs := [15]) (by kernel_rfl) (by simp) ?_
        refine AllReadyH.cons rfl (fun K hK => ?_) (AllReadyH.nil)
        obtain ⟨z0, z1, z2, z3, z4, z5, z6, z7, z8, z9, z10, z11⟩ := X.out.six
        go_simp
        refine hK.out _ _ (below_set6 kb5 lX _ _ _ _ _ _) (fun hHeld => ?_)
        clear hK K
        try simp only [Act.put, List.setIfInBounds_toArray, List.set_cons_zero, List.set_cons_succ]
        clear z0 z1 z2 z3 z4 z5 z6 z7 z8 z9 z10 z11
        replace G := hide_ (G.out.far6 (h := g7) (Ne.symm nXG) (.int .i64 f) (.bool m) (.int .u64 (a : Int)) (.int .u64 (b : Int)) (.int .u64 (c : Int)) (.int .u64 (d : Int)))
        replace X := hide_ (X.out.set6 (.int .i64 f) (.bool m) (.int .u64 (a : Int)) (.int .u64 (b : Int)) (.int .u64 (c : Int)) (.int .u64 (d : Int)))
        have kb6 := below_set6 (g := g7) kb5 lX (.int .i64 f) (.bool m) (.int .u64 (a : Int)) (.int .u64 (b : Int)) (.int .u64 (c : Int)) (.int .u64 (d : Int))
        generalize ((((((D5.setCell ⟨g7, 0, none⟩ (.int .i64 f)).setCell ⟨g7, 1, none⟩ (.bool m)).setCell ⟨g7, 2, none⟩ (.int .u64 (a : Int))).setCell ⟨g7, 3, none⟩ (.int .u64 (b : Int))).setCell ⟨g7, 4, none⟩ (.int .u64 (c : Int))).setCell ⟨g7, 5, none⟩ (.int .u64 (d : Int))) = D6 at *
        refine takeR (i := 16) (v := ?_) rfl (by kernel_rfl) (by kernel_rfl) (by kernel_rfl) (some 8) rfl (Or.inl ⟨by rfl, ?_⟩) (fun _ _ _ h => h) (by assumption) ?_
        rotate_left
        · intro w hSw; (try dsimp only at hSw); go_simp; (try with_reducible rfl)
        simp only [Act.put, List.setIfInBounds_toArray, List.set_cons_zero, List.set_cons_succ]
        refine wpAnyH_ready (rs := [17]) (by kernel_rfl) (by simp) ?_
        refine AllReadyH.cons rfl (fun K hK => ?_) (AllReadyH.nil)
        obtain ⟨z0, z1, z2, z3, z4, z5⟩ := G.out.three
        go_simp
        refine hK.out _ _ (below_set3 kb6 lG _ _ _) (fun hHeld => ?_)
        clear hK K
        try simp only [Act.put, List.setIfInBounds_toArray, List.set_cons_zero, List.set_cons_succ]
        clear z0 z1 z2 z3 z4 z5
        replace X := hide_ (X.out.far3 (h := g9) nXG (.bool false) (.int .i64 0) (.int .i64 0))
        replace G := hide_ (G.out.set3 (.bool false) (.int .i64 0) (.int .i64 0))
        have kb7 := below_set3 (g := g9) kb6 lG (.bool false) (.int .i64 0) (.int .i64 0)
        generalize (((D6.setCell ⟨g9, 0, none⟩ (.bool false)).setCell ⟨g9, 1, none⟩ (.int .i64 0)).setCell ⟨g9, 2, none⟩ (.int .i64 0)) = D7 at *
        refine wpAnyH_done (by kernel_rfl) ?_ _
        go_wp2_with fail
        go_meet
        exact ⟨g7, g9, rfl, rfl, rfl, X.out, G.out, kb7⟩
  case rest =>
    obtain ⟨g7, g9, rfl, rfl, rfl, X, G, kc⟩ := hcut
    have kk := b1.trans (kc.mono b1.size)
    have k1c := k1.trans (kc.mono k1.size)
    obtain ⟨p0, p1, p2', p3, p4, p5, -⟩ := (A0.out.later kk).six
    obtain ⟨r0, r1, r2, r3, r4, r5, -⟩ := X.six
    obtain ⟨v0, v1, v2, -⟩ := G.three
    clear X G h1 qc S3 S30 qcl qd1 q1 y0 y1 y2 y3 y4 y5 s1 s2 gm HI IB IT H63 A0 B0 k1 kk kc
    go_wp2_with (first | (go_at_call 17; refine (qd.out _ k1c).mono ?_; rintro e w2 ⟨rfl, bb2⟩; have k2 : Below w.heap.size w ((w2.alloc (.cells #[.int .i64 0, .bool false, .int .u64 0, .int .u64 0, .int .u64 0, .int .u64 0] 26)).alloc (.cells #[.bool true, .int .i64 4, .int .i64 k] 39)) := k1c.trans ((bb2.trans ((below2 w2 _ _).mono bb2.size)).mono k1c.size); obtain ⟨x0, x1, x2, x3, x4, x5, -⟩ := ((AB.at0 w2 26 [.int .i64 0, .bool false, .int .u64 0, .int .u64 0, .int .u64 0, .int .u64 0]).alloc (.cells #[.bool true, .int .i64 4, .int .i64 k] 39)).six; obtain ⟨g0, g1, g2, -⟩ := (AB.at1 w2 (.cells #[.int .i64 0, .bool false, .int .u64 0, .int .u64 0, .int .u64 0, .int .u64 0] 26) 39 [.bool true, .int .i64 4, .int .i64 k]).three) | (go_at_call 16; refine (aw.out _).mono ?_; rintro e w3 ⟨rfl, b3⟩))
    go_ret
    exact ⟨rfl, k2.trans (b3.mono k2.size)⟩


end Go.Proofs.Ytabefajdpefbiaa
