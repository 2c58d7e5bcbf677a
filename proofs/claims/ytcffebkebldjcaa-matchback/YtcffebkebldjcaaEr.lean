import Derived.Test.YtcffebkebldjcaaEn
import Derived.Test.YtcffebkebldjcaaOzc
import Derived.Test.YtcffebkebldjcaaOz
import Derived.Test.YtcffebkebldjcaaPb
import Derived.Test.YtcffebkebldjcaaEq
import Derived.Deep.RegionHeld3
import Derived.Deep.RegionWith
import Derived.Deep.MidRow
import Derived.Deep.Cut
namespace Go.Proofs.Ytcffebkebldjcaa
open Go Go.RowKit
set_option linter.unusedVariables false
set_option linter.unusedSimpArgs false

set_option maxRecDepth 100000 in
set_option maxHeartbeats 8000000 in
theorem mback_yes (s : Option Addr) (sc : Nat) (L : List O6) (ao : Option Addr) (cap : Nat) (l : List Int) (w : World) (g1 : ¬ (60 : Int) < (L.length : Int)) (g2 : ¬ (2000 : Int) < (l.length : Int)) (hB : Bytes w (.slice ao l.length cap) l) (B : List Int) (n8 : Nat)
    (gm : (if (8 : Int) < (l.length : Int) then (8 : Int) else (l.length : Int)) = (n8 : Int)) (hn8 : n8 ≤ l.length) (h8 : n8 ≤ 8) (hLl : B.length ≤ 2000) (hLB : isB B) (hm8 : B.length % 8 = 0)
    (q1 : Calls Try.prog 9 #[.slice s L.length sc] w fun e w' => (∃ r, e = .returned (.tuple #[r, .int .i64 0]) ∧ Bytes w' r B) ∧ Below w.heap.size w w')
    (qd1 : ∀ v W, Bytes W v (B ++ l.take n8) → Calls Try.prog 20 #[v] W fun e w' => (∃ r, e = .returned (.tuple #[r, .int .i64 (B.length : Int), .agg #[.bool false, .int .i64 0, .int .i64 0]]) ∧ OxAt w' r L) ∧ Below W.heap.size W w')
    (qs : ∀ r W, Below w.heap.size w W → OxAt W r L → Calls Try.prog 14 #[r, .slice s L.length sc] W fun e w' => e = .returned (.bool true) ∧ Below W.heap.size W w') (hq : (∃ cc : Int, ∀ W, Below w.heap.size w W → Calls Try.prog 20 #[.slice ao l.length cap] W fun e w' => e = .returned (.tuple #[.slice none 0 0, .int .i64 0, .agg #[.bool true, .int .i64 4, .int .i64 cc]]) ∧ Below W.heap.size W w') ∨ ∃ (K : List O6) (n : Nat), n ≤ l.length ∧ (∀ W, Below w.heap.size w W → Calls Try.prog 20 #[.slice ao l.length cap] W fun e w' => (∃ r, e = .returned (.tuple #[r, .int .i64 (n : Int), .agg #[.bool false, .int .i64 0, .int .i64 0]]) ∧ OxAt w' r K) ∧ Below W.heap.size W w') ∧ (∀ r W, OxAt W r K → Calls Try.prog 9 #[r] W fun e w' => (∃ r', e = .returned (.tuple #[r', .int .i64 0]) ∧ Bytes w' r' (l.take n)) ∧ Below W.heap.size W w')) :
    Calls Try.prog 6 #[.slice s L.length sc, .slice ao l.length cap] w fun e w' => e = .returned (.bool true) ∧ Below w.heap.size w w' := by
  have q1 : Calls Try.prog 9 #[.slice s L.length sc] w fun e w' => ∃ ar cr, e = .returned (.tuple #[.slice ar B.length cr, .int .i64 0]) ∧ Bytes w' (.slice ar B.length cr) B ∧ Below w.heap.size w w' := q1.mono (by
    rintro e w' ⟨⟨r, rfl, ⟨ar, cr, rfl, hh⟩⟩, b⟩
    exact ⟨ar, cr, rfl, ⟨ar, cr, rfl, hh⟩, b⟩)
  have aw := hide_ (fun w => awake11_any w)
  have ht8 : Int.tmod (B.length : Int) 8 = 0 := by rw [Int.tmod_eq_emod_of_nonneg (by omega)]; omega
  have HBh := hide_ hB
  have HQ := hide_ hq
  obtain ⟨s1, s2, s3⟩ := bytes_take hB n8 hn8
  have S30 := hide_ s3
  have IB := hide_ hLB
  have IT := hide_ (isB_take hB.isB_ n8)
  have H63 : Hid (B.length + (l.take n8).length ≤ 140737488355328) := hide_ (by simp; omega)
  obtain ⟨i0, hi0, hz0, hz1, hz2⟩ := info_parts info5
  have HI : Hid (Try.prog.info? 5 = some i0 ∧ i0.zero = some (.int .u8 0) ∧ i0.size = 1 ∧ i0.bytes = 1) := ⟨hi0, hz0, hz1, hz2⟩
  clear hi0 hz0 hz1 hz2
  have qcl := hide_ (fun v W (h : Bytes W v B) => clone_any v B W h (by omega))
  clear hB hn8 h8 hLl hLB s3 hm8 hq
  have q1 := hide_ q1
  have qd1 := hide_ qd1
  have qs := hide_ qs
  go_enter Try.func6, Try.ntmps6
  go_upto_region 5 with (first | (go_at_call_of 9 (Value.slice s L.length sc); refine q1.out.mono ?_; rintro e w1 ⟨ar, cr, rfl, h1, b1⟩; have h1 := hide_ h1))
  have S3 := hide_ (S30.out.later b1)
  have qc : Hid (∀ W, Below w1.heap.size w1 W → Calls Try.prog 22 #[.slice ar B.length cr] W fun e w' => ∃ rc, e = .returned rc ∧ w'.ownsRow W.heap.size 5 1 rc B.length (u8s B) ∧ Below W.heap.size W w') := hide_ (fun W hW => qcl.out _ W (h1.out.later hW))
  go_cut [7, 8, 9] from 31 (fun s7 s8 s9 wx => ∃ g9, s8 = .int .i64 (B.length : Int) ∧ s9 = .pointer (some ⟨g9, 0, none⟩) ∧ OxAt wx s7 L ∧ AB wx g9 30 [.bool false, .int .i64 0, .int .i64 0] ∧ Below w1.heap.size w1 wx)
  case first =>
    refine wp_region_held_drew (S := (fun w' => Below w1.heap.size w1 w')) (by kernel_rfl) ((Below.refl _ _).drew) (fun hHeld => ?_)
    have kb0 : Below w1.heap.size w1 w1.drew := (Below.refl _ _).drew
    generalize w1.drew = D0 at *
    refine takeR (i := 0) (v := ?_) rfl (by kernel_rfl) (by kernel_rfl) (by kernel_rfl) (some 32) rfl (Or.inl ⟨by rfl, ?_⟩) (fun _ _ _ h => h) (by assumption) ?_
    rotate_left
    · intro w hSw; (try dsimp only at hSw); go_simp; (try with_reducible rfl)
    simp only [Act.put, List.setIfInBounds_toArray, List.set_cons_zero, List.set_cons_succ]
    refine takeR (i := 2) (v := ?_) rfl (by kernel_rfl) (by kernel_rfl) (by kernel_rfl) (some 34) rfl (Or.inl ⟨by rfl, ?_⟩) (fun _ _ _ h => h) (by assumption) ?_
    rotate_left
    · intro w hSw; (try dsimp only at hSw); go_simp; (try with_reducible rfl)
    simp only [Act.put, List.setIfInBounds_toArray, List.set_cons_zero, List.set_cons_succ]
    refine takeR (i := 3) (v := ?_) rfl (by kernel_rfl) (by kernel_rfl) (by kernel_rfl) (some 35) rfl (Or.inl ⟨by rfl, ?_⟩) (fun _ _ _ h => h) (by assumption) ?_
    rotate_left
    · intro w hSw; (try dsimp only at hSw); go_simp; (try with_reducible rfl)
    simp only [Act.put, List.setIfInBounds_toArray, List.set_cons_zero, List.set_cons_succ]
    refine takeR (i := 4) (v := ?_) rfl (by kernel_rfl) (by kernel_rfl) (by kernel_rfl) (some 36) rfl (Or.inl ⟨by rfl, ?_⟩) (fun _ _ _ h => h) (by assumption) ?_
    rotate_left
    · intro w hSw; (try dsimp only at hSw); go_simp; (try with_reducible rfl)
    simp only [Act.put, List.setIfInBounds_toArray, List.set_cons_zero, List.set_cons_succ]
    refine takeR (i := 5) (v := .int .i64 (n8 : Int)) rfl (by kernel_rfl) (by kernel_rfl) (by kernel_rfl) (some 37) rfl (Or.inl ⟨by rfl, ?_⟩) (fun _ _ _ h => h) (by assumption) ?_
    · intro w hSw; (try dsimp only at hSw); go_simp; (first | done | (simp only [gm]) | (rw [gm]))
    simp only [Act.put, List.setIfInBounds_toArray, List.set_cons_zero, List.set_cons_succ]
    refine takeR (i := 6) (v := ?_) rfl (by kernel_rfl) (by kernel_rfl) (by kernel_rfl) (some 38) rfl (Or.inl ⟨by rfl, ?_⟩) (fun _ _ _ h => h) (by assumption) ?_
    rotate_left
    · intro w hSw; (try dsimp only at hSw); go_simp; (try with_reducible rfl)
    simp only [Act.put, List.setIfInBounds_toArray, List.set_cons_zero, List.set_cons_succ]
    refine wpAnyH_ready (rs := [1, 13]) (by kernel_rfl) (by simp) ?_
    refine AllReadyH.cons rfl (fun K hK => ?_) (AllReadyH.cons rfl (fun K hK => ?_) (AllReadyH.nil))
    · go_simp
      refine (qc.out _ kb0).mono ?_
      rintro e D1 ⟨rc, rfl, own, bj⟩
      refine hK.out _ _ (kb0.trans (bj.mono kb0.size)) (fun hHeld => ?_)
      clear hK K
      try simp only [Act.put, List.setIfInBounds_toArray, List.set_cons_zero, List.set_cons_succ]
      have kb1 := kb0.trans (bj.mono kb0.size)
      have lB : w1.heap.size ≤ D0.heap.size := kb0.size
      replace own := hide_ own
      have lC : D0.heap.size ≤ D1.heap.size := bj.size
      clear bj
      generalize D0.heap.size = bs at *
      refine wpAnyH_ready (rs := [7, 13]) (by kernel_rfl) (by simp) ?_
      refine AllReadyH.cons rfl (fun K hK => ?_) (AllReadyH.cons rfl (fun K hK => ?_) (AllReadyH.nil))
      · refine step_append_ownB rfl (.tmp 33) (.tmp 38) 24 rfl bs 5 i0 Try.underlying24 HI.out.1 HI.out.2.1 HI.out.2.2.1 HI.out.2.2.2 rc B.length (u8s B) (by first | rfl | simp [Act.eval, Act.put]) own.out (.slice ao n8 cap) (l.take n8) (by first | rfl | simp [Act.eval, Act.put]) (S3.out.later kb1) H63.out lC ?_
        intro va D2 own2 hg
        refine hK.out _ _ (kb1.trans (below_grown hg w1.heap.size kb1.size (fun k e => Nat.le_trans lB (own.out.lt k e).1))) (fun hHeld => ?_)
        clear hK K
        try simp only [Act.put, List.setIfInBounds_toArray, List.set_cons_zero, List.set_cons_succ]
        have kb2 := kb1.trans (below_grown hg w1.heap.size kb1.size (fun k e => Nat.le_trans lB (own.out.lt k e).1))
        have hA := hide_ (bytes_app own2 IB.out IT.out)
        clear own2 hg own
        refine wpAnyH_ready (rs := [8, 13]) (by kernel_rfl) (by simp) ?_
        refine AllReadyH.cons rfl (fun K hK => ?_) (AllReadyH.cons rfl (fun K hK => ?_) (AllReadyH.nil))
        · go_simp
          refine (qd1.out _ _ hA.out).mono ?_
          rintro e D3 ⟨⟨rk, rfl, hrk⟩, bj⟩
          refine hK.out _ _ (kb2.trans (bj.mono kb2.size)) (fun hHeld => ?_)
          clear hK K
          try simp only [Act.put, List.setIfInBounds_toArray, List.set_cons_zero, List.set_cons_succ]
          have kb3 := kb2.trans (bj.mono kb2.size)
          have R := hide_ hrk
          clear bj hA hrk
          refine takeR (i := 9) (v := ?_) rfl (by kernel_rfl) (by kernel_rfl) (by kernel_rfl) (some 31) rfl (Or.inl ⟨by rfl, ?_⟩) (fun _ _ _ h => h) (by assumption) ?_
          rotate_left
          · intro w hSw; (try dsimp only at hSw); go_simp; (try with_reducible rfl)
          simp only [Act.put, List.setIfInBounds_toArray, List.set_cons_zero, List.set_cons_succ]
          refine takeR (i := 10) (v := ?_) rfl (by kernel_rfl) (by kernel_rfl) (by kernel_rfl) (some 41) rfl (Or.inl ⟨by rfl, ?_⟩) (fun _ _ _ h => h) (by assumption) ?_
          rotate_left
          · intro w hSw; (try dsimp only at hSw); go_simp; (try with_reducible rfl)
          simp only [Act.put, List.setIfInBounds_toArray, List.set_cons_zero, List.set_cons_succ]
          refine takeR (i := 11) (v := ?_) rfl (by kernel_rfl) (by kernel_rfl) (by kernel_rfl) (some 42) rfl (Or.inl ⟨by rfl, ?_⟩) (fun _ _ _ h => h) (by assumption) ?_
          rotate_left
          · intro w hSw; (try dsimp only at hSw); go_simp; (try with_reducible rfl)
          simp only [Act.put, List.setIfInBounds_toArray, List.set_cons_zero, List.set_cons_succ]
          refine takeR (i := 12) (v := ?_) rfl (by kernel_rfl) (by kernel_rfl) (by kernel_rfl) (some 43) rfl (Or.inl ⟨by rfl, ?_⟩) (fun _ _ _ h => h) (by assumption) ?_
          rotate_left
          · intro w hSw; (try dsimp only at hSw); go_simp; (try with_reducible rfl)
          simp only [Act.put, List.setIfInBounds_toArray, List.set_cons_zero, List.set_cons_succ]
          refine wpAnyH_ready (rs := [13]) (by kernel_rfl) (by simp) ?_
          refine AllReadyH.cons rfl (fun K hK => ?_) (AllReadyH.nil)
          go_simp
          refine hK.out _ _ (kb3.trans ((below1 D3 (.cells #[.bool false, .int .i64 0, .int .i64 0] 30)).mono kb3.size)) (fun hHeld => ?_)
          clear hK K
          try simp only [Act.put, List.setIfInBounds_toArray, List.set_cons_zero, List.set_cons_succ]
          have bj := below1 D3 (.cells #[.bool false, .int .i64 0, .int .i64 0] 30)
          have kb4 := kb3.trans (bj.mono kb3.size)
          replace R := hide_ (R.out.later bj)
          have G := hide_ (AB.at0 D3 30 [.bool false, .int .i64 0, .int .i64 0])
          have lG : w1.heap.size ≤ D3.heap.size := kb3.size
          clear bj
          generalize D3.alloc (.cells #[.bool false, .int .i64 0, .int .i64 0] 30) = D4 at *
          generalize D3.heap.size = g9 at *
          refine takeR (i := 14) (v := ?_) rfl (by kernel_rfl) (by kernel_rfl) (by kernel_rfl) (some 7) rfl (Or.inl ⟨by rfl, ?_⟩) (fun _ _ _ h => h) (by assumption) ?_
          rotate_left
          · intro w hSw; (try dsimp only at hSw); go_simp; (try with_reducible rfl)
          simp only [Act.put, List.setIfInBounds_toArray, List.set_cons_zero, List.set_cons_succ]
          refine takeR (i := 15) (v := ?_) rfl (by kernel_rfl) (by kernel_rfl) (by kernel_rfl) (some 8) rfl (Or.inl ⟨by rfl, ?_⟩) (fun _ _ _ h => h) (by assumption) ?_
          rotate_left
          · intro w hSw; (try dsimp only at hSw); go_simp; (try with_reducible rfl)
          simp only [Act.put, List.setIfInBounds_toArray, List.set_cons_zero, List.set_cons_succ]
          refine wpAnyH_ready (rs := [16]) (by kernel_rfl) (by simp) ?_
          refine AllReadyH.cons rfl (fun K hK => ?_) (AllReadyH.nil)
          obtain ⟨z0, z1, z2, z3, z4, z5⟩ := G.out.three
          go_simp
          refine hK.out _ _ (below_set3 kb4 lG _ _ _) (fun hHeld => ?_)
          clear hK K
          try simp only [Act.put, List.setIfInBounds_toArray, List.set_cons_zero, List.set_cons_succ]
          clear z0 z1 z2 z3 z4 z5
          have HRW := hide_ (oxat_set3 R.out G.out (.bool false) (.int .i64 0) (.int .i64 0))
          replace G := hide_ (G.out.set3 (.bool false) (.int .i64 0) (.int .i64 0))
          have kb5 := below_set3 (g := g9) kb4 lG (.bool false) (.int .i64 0) (.int .i64 0)
          generalize (((D4.setCell ⟨g9, 0, none⟩ (.bool false)).setCell ⟨g9, 1, none⟩ (.int .i64 0)).setCell ⟨g9, 2, none⟩ (.int .i64 0)) = D5 at *
          refine wpAnyH_done (by kernel_rfl) ?_ _
          go_wp2_with fail
          go_meet
          exact ⟨g9, rfl, rfl, HRW.out, G.out, kb5⟩
        · go_simp
          refine hK.out _ _ (kb2.trans ((below1 D2 (.cells #[.bool false, .int .i64 0, .int .i64 0] 30)).mono kb2.size)) (fun hHeld => ?_)
          clear hK K
          try simp only [Act.put, List.setIfInBounds_toArray, List.set_cons_zero, List.set_cons_succ]
          have bj := below1 D2 (.cells #[.bool false, .int .i64 0, .int .i64 0] 30)
          have kb3 := kb2.trans (bj.mono kb2.size)
          replace hA := hide_ (hA.out.later bj)
          have G := hide_ (AB.at0 D2 30 [.bool false, .int .i64 0, .int .i64 0])
          have lG : w1.heap.size ≤ D2.heap.size := kb2.size
          clear bj
          generalize D2.alloc (.cells #[.bool false, .int .i64 0, .int .i64 0] 30) = D3 at *
          generalize D2.heap.size = g9 at *
          refine wpAnyH_ready (rs := [8]) (by kernel_rfl) (by simp) ?_
          refine AllReadyH.cons rfl (fun K hK => ?_) (AllReadyH.nil)
          go_simp
          refine (qd1.out _ _ hA.out).mono ?_
          rintro e D4 ⟨⟨rk, rfl, hrk⟩, bj⟩
          refine hK.out _ _ (kb3.trans (bj.mono kb3.size)) (fun hHeld => ?_)
          clear hK K
          try simp only [Act.put, List.setIfInBounds_toArray, List.set_cons_zero, List.set_cons_succ]
          have kb4 := kb3.trans (bj.mono kb3.size)
          replace G := hide_ (G.out.later bj)
          have R := hide_ hrk
          clear bj hA hrk
          refine takeR (i := 9) (v := ?_) rfl (by kernel_rfl) (by kernel_rfl) (by kernel_rfl) (some 31) rfl (Or.inl ⟨by rfl, ?_⟩) (fun _ _ _ h => h) (by assumption) ?_
          rotate_left
          · intro w hSw; (try dsimp only at hSw); go_simp; (try with_reducible rfl)
          simp only [Act.put, List.setIfInBounds_toArray, List.set_cons_zero, List.set_cons_succ]
          refine takeR (i := 10) (v := ?_) rfl (by kernel_rfl) (by kernel_rfl) (by kernel_rfl) (some 41) rfl (Or.inl ⟨by rfl, ?_⟩) (fun _ _ _ h => h) (by assumption) ?_
          rotate_left
          · intro w hSw; (try dsimp only at hSw); go_simp; (try with_reducible rfl)
          simp only [Act.put, List.setIfInBounds_toArray, List.set_cons_zero, List.set_cons_succ]
          refine takeR (i := 11) (v := ?_) rfl (by kernel_rfl) (by kernel_rfl) (by kernel_rfl) (some 42) rfl (Or.inl ⟨by rfl, ?_⟩) (fun _ _ _ h => h) (by assumption) ?_
          rotate_left
          · intro w hSw; (try dsimp only at hSw); go_simp; (try with_reducible rfl)
          simp only [Act.put, List.setIfInBounds_toArray, List.set_cons_zero, List.set_cons_succ]
          refine takeR (i := 12) (v := ?_) rfl (by kernel_rfl) (by kernel_rfl) (by kernel_rfl) (some 43) rfl (Or.inl ⟨by rfl, ?_⟩) (fun _ _ _ h => h) (by assumption) ?_
          rotate_left
          · intro w hSw; (try dsimp only at hSw); go_simp; (try with_reducible rfl)
          simp only [Act.put, List.setIfInBounds_toArray, List.set_cons_zero, List.set_cons_succ]
          refine takeR (i := 14) (v := ?_) rfl (by kernel_rfl) (by kernel_rfl) (by kernel_rfl) (some 7) rfl (Or.inl ⟨by rfl, ?_⟩) (fun _ _ _ h => h) (by assumption) ?_
          rotate_left
          · intro w hSw; (try dsimp only at hSw); go_simp; (try with_reducible rfl)
          simp only [Act.put, List.setIfInBounds_toArray, List.set_cons_zero, List.set_cons_succ]
          refine takeR (i := 15) (v := ?_) rfl (by kernel_rfl) (by kernel_rfl) (by kernel_rfl) (some 8) rfl (Or.inl ⟨by rfl, ?_⟩) (fun _ _ _ h => h) (by assumption) ?_
          rotate_left
          · intro w hSw; (try dsimp only at hSw); go_simp; (try with_reducible rfl)
          simp only [Act.put, List.setIfInBounds_toArray, List.set_cons_zero, List.set_cons_succ]
          refine wpAnyH_ready (rs := [16]) (by kernel_rfl) (by simp) ?_
          refine AllReadyH.cons rfl (fun K hK => ?_) (AllReadyH.nil)
          obtain ⟨z0, z1, z2, z3, z4, z5⟩ := G.out.three
          go_simp
          refine hK.out _ _ (below_set3 kb4 lG _ _ _) (fun hHeld => ?_)
          clear hK K
          try simp only [Act.put, List.setIfInBounds_toArray, List.set_cons_zero, List.set_cons_succ]
          clear z0 z1 z2 z3 z4 z5
          have HRW := hide_ (oxat_set3 R.out G.out (.bool false) (.int .i64 0) (.int .i64 0))
          replace G := hide_ (G.out.set3 (.bool false) (.int .i64 0) (.int .i64 0))
          have kb5 := below_set3 (g := g9) kb4 lG (.bool false) (.int .i64 0) (.int .i64 0)
          generalize (((D4.setCell ⟨g9, 0, none⟩ (.bool false)).setCell ⟨g9, 1, none⟩ (.int .i64 0)).setCell ⟨g9, 2, none⟩ (.int .i64 0)) = D5 at *
          refine wpAnyH_done (by kernel_rfl) ?_ _
          go_wp2_with fail
          go_meet
          exact ⟨g9, rfl, rfl, HRW.out, G.out, kb5⟩
      · go_simp
        refine hK.out _ _ (kb1.trans ((below1 D1 (.cells #[.bool false, .int .i64 0, .int .i64 0] 30)).mono kb1.size)) (fun hHeld => ?_)
        clear hK K
        try simp only [Act.put, List.setIfInBounds_toArray, List.set_cons_zero, List.set_cons_succ]
        have bj := below1 D1 (.cells #[.bool false, .int .i64 0, .int .i64 0] 30)
        have kb2 := kb1.trans (bj.mono kb1.size)
        have nG : Hid (∀ k, rc.ownBlock = some k → k ≠ D1.heap.size) := hide_ (fun k e => Nat.ne_of_lt (own.out.lt k e).2)
        replace own := hide_ (own.out.alloc (.cells #[.bool false, .int .i64 0, .int .i64 0] 30))
        replace lC := Nat.le_trans lC bj.size
        have G := hide_ (AB.at0 D1 30 [.bool false, .int .i64 0, .int .i64 0])
        have lG : w1.heap.size ≤ D1.heap.size := kb1.size
        clear bj
        generalize D1.alloc (.cells #[.bool false, .int .i64 0, .int .i64 0] 30) = D2 at *
        generalize D1.heap.size = g9 at *
        refine wpAnyH_ready (rs := [7]) (by kernel_rfl) (by simp) ?_
        refine AllReadyH.cons rfl (fun K hK => ?_) (AllReadyH.nil)
        refine step_append_ownB rfl (.tmp 33) (.tmp 38) 24 rfl bs 5 i0 Try.underlying24 HI.out.1 HI.out.2.1 HI.out.2.2.1 HI.out.2.2.2 rc B.length (u8s B) (by first | rfl | simp [Act.eval, Act.put]) own.out (.slice ao n8 cap) (l.take n8) (by first | rfl | simp [Act.eval, Act.put]) (S3.out.later kb2) H63.out lC ?_
        intro va D3 own2 hg
        refine hK.out _ _ (kb2.trans (below_grown hg w1.heap.size kb2.size (fun k e => Nat.le_trans lB (own.out.lt k e).1))) (fun hHeld => ?_)
        clear hK K
        try simp only [Act.put, List.setIfInBounds_toArray, List.set_cons_zero, List.set_cons_succ]
        have kb3 := kb2.trans (below_grown hg w1.heap.size kb2.size (fun k e => Nat.le_trans lB (own.out.lt k e).1))
        replace G := hide_ (ab_grown G.out hg nG.out)
        have hA := hide_ (bytes_app own2 IB.out IT.out)
        clear own2 hg own
        clear nG
        refine wpAnyH_ready (rs := [8]) (by kernel_rfl) (by simp) ?_
        refine AllReadyH.cons rfl (fun K hK => ?_) (AllReadyH.nil)
        go_simp
        refine (qd1.out _ _ hA.out).mono ?_
        rintro e D4 ⟨⟨rk, rfl, hrk⟩, bj⟩
        refine hK.out _ _ (kb3.trans (bj.mono kb3.size)) (fun hHeld => ?_)
        clear hK K
        try simp only [Act.put, List.setIfInBounds_toArray, List.set_cons_zero, List.set_cons_succ]
        have kb4 := kb3.trans (bj.mono kb3.size)
        replace G := hide_ (G.out.later bj)
        have R := hide_ hrk
        clear bj hA hrk
        refine takeR (i := 9) (v := ?_) rfl (by kernel_rfl) (by kernel_rfl) (by kernel_rfl) (some 31) rfl (Or.inl ⟨by rfl, ?_⟩) (fun _ _ _ h => h) (by assumption) ?_
        rotate_left
        · intro w hSw; (try dsimp only at hSw); go_simp; (try with_reducible rfl)
        simp only [Act.put, List.setIfInBounds_toArray, List.set_cons_zero, List.set_cons_succ]
        refine takeR (i := 10) (v := ?_) rfl (by kernel_rfl) (by kernel_rfl) (by kernel_rfl) (some 41) rfl (Or.inl ⟨by rfl, ?_⟩) (fun _ _ _ h => h) (by assumption) ?_
        rotate_left
        · intro w hSw; (try dsimp only at hSw); go_simp; (try with_reducible rfl)
        simp only [Act.put, List.setIfInBounds_toArray, List.set_cons_zero, List.set_cons_succ]
        refine takeR (i := 11) (v := ?_) rfl (by kernel_rfl) (by kernel_rfl) (by kernel_rfl) (some 42) rfl (Or.inl ⟨by rfl, ?_⟩) (fun _ _ _ h => h) (by assumption) ?_
        rotate_left
        · intro w hSw; (try dsimp only at hSw); go_simp; (try with_reducible rfl)
        simp only [Act.put, List.setIfInBounds_toArray, List.set_cons_zero, List.set_cons_succ]
        refine takeR (i := 12) (v := ?_) rfl (by kernel_rfl) (by kernel_rfl) (by kernel_rfl) (some 43) rfl (Or.inl ⟨by rfl, ?_⟩) (fun _ _ _ h => h) (by assumption) ?_
        rotate_left
        · intro w hSw; (try dsimp only at hSw); go_simp; (try with_reducible rfl)
        simp only [Act.put, List.setIfInBounds_toArray, List.set_cons_zero, List.set_cons_succ]
        refine takeR (i := 14) (v := ?_) rfl (by kernel_rfl) (by kernel_rfl) (by kernel_rfl) (some 7) rfl (Or.inl ⟨by rfl, ?_⟩) (fun _ _ _ h => h) (by assumption) ?_
        rotate_left
        · intro w hSw; (try dsimp only at hSw); go_simp; (try with_reducible rfl)
        simp only [Act.put, List.setIfInBounds_toArray, List.set_cons_zero, List.set_cons_succ]
        refine takeR (i := 15) (v := ?_) rfl (by kernel_rfl) (by kernel_rfl) (by kernel_rfl) (some 8) rfl (Or.inl ⟨by rfl, ?_⟩) (fun _ _ _ h => h) (by assumption) ?_
        rotate_left
        · intro w hSw; (try dsimp only at hSw); go_simp; (try with_reducible rfl)
        simp only [Act.put, List.setIfInBounds_toArray, List.set_cons_zero, List.set_cons_succ]
        refine wpAnyH_ready (rs := [16]) (by kernel_rfl) (by simp) ?_
        refine AllReadyH.cons rfl (fun K hK => ?_) (AllReadyH.nil)
        obtain ⟨z0, z1, z2, z3, z4, z5⟩ := G.out.three
        go_simp
        refine hK.out _ _ (below_set3 kb4 lG _ _ _) (fun hHeld => ?_)
        clear hK K
        try simp only [Act.put, List.setIfInBounds_toArray, List.set_cons_zero, List.set_cons_succ]
        clear z0 z1 z2 z3 z4 z5
        have HRW := hide_ (oxat_set3 R.out G.out (.bool false) (.int .i64 0) (.int .i64 0))
        replace G := hide_ (G.out.set3 (.bool false) (.int .i64 0) (.int .i64 0))
        have kb5 := below_set3 (g := g9) kb4 lG (.bool false) (.int .i64 0) (.int .i64 0)
        generalize (((D4.setCell ⟨g9, 0, none⟩ (.bool false)).setCell ⟨g9, 1, none⟩ (.int .i64 0)).setCell ⟨g9, 2, none⟩ (.int .i64 0)) = D5 at *
        refine wpAnyH_done (by kernel_rfl) ?_ _
        go_wp2_with fail
        go_meet
        exact ⟨g9, rfl, rfl, HRW.out, G.out, kb5⟩
    · go_simp
      refine hK.out _ _ (kb0.trans ((below1 D0 (.cells #[.bool false, .int .i64 0, .int .i64 0] 30)).mono kb0.size)) (fun hHeld => ?_)
      clear hK K
      try simp only [Act.put, List.setIfInBounds_toArray, List.set_cons_zero, List.set_cons_succ]
      have bj := below1 D0 (.cells #[.bool false, .int .i64 0, .int .i64 0] 30)
      have kb1 := kb0.trans (bj.mono kb0.size)
      have G := hide_ (AB.at0 D0 30 [.bool false, .int .i64 0, .int .i64 0])
      have lG : w1.heap.size ≤ D0.heap.size := kb0.size
      clear bj
      generalize D0.alloc (.cells #[.bool false, .int .i64 0, .int .i64 0] 30) = D1 at *
      generalize D0.heap.size = g9 at *
      refine wpAnyH_ready (rs := [1]) (by kernel_rfl) (by simp) ?_
      refine AllReadyH.cons rfl (fun K hK => ?_) (AllReadyH.nil)
      go_simp
      refine (qc.out _ kb1).mono ?_
      rintro e D2 ⟨rc, rfl, own, bj⟩
      refine hK.out _ _ (kb1.trans (bj.mono kb1.size)) (fun hHeld => ?_)
      clear hK K
      try simp only [Act.put, List.setIfInBounds_toArray, List.set_cons_zero, List.set_cons_succ]
      have kb2 := kb1.trans (bj.mono kb1.size)
      have lB : w1.heap.size ≤ D1.heap.size := kb1.size
      replace own := hide_ own
      have lC : D1.heap.size ≤ D2.heap.size := bj.size
      have nG : Hid (∀ k, rc.ownBlock = some k → k ≠ g9) := hide_ (fun k e => by have h1 := (own.out.lt k e).1; have h2 := G.out.lt; omega)
      replace G := hide_ (G.out.later bj)
      clear bj
      generalize D1.heap.size = bs at *
      refine wpAnyH_ready (rs := [7]) (by kernel_rfl) (by simp) ?_
      refine AllReadyH.cons rfl (fun K hK => ?_) (AllReadyH.nil)
      refine step_append_ownB rfl (.tmp 33) (.tmp 38) 24 rfl bs 5 i0 Try.underlying24 HI.out.1 HI.out.2.1 HI.out.2.2.1 HI.out.2.2.2 rc B.length (u8s B) (by first | rfl | simp [Act.eval, Act.put]) own.out (.slice ao n8 cap) (l.take n8) (by first | rfl | simp [Act.eval, Act.put]) (S3.out.later kb2) H63.out lC ?_
      intro va D3 own2 hg
      refine hK.out _ _ (kb2.trans (below_grown hg w1.heap.size kb2.size (fun k e => Nat.le_trans lB (own.out.lt k e).1))) (fun hHeld => ?_)
      clear hK K
      try simp only [Act.put, List.setIfInBounds_toArray, List.set_cons_zero, List.set_cons_succ]
      have kb3 := kb2.trans (below_grown hg w1.heap.size kb2.size (fun k e => Nat.le_trans lB (own.out.lt k e).1))
      replace G := hide_ (ab_grown G.out hg nG.out)
      have hA := hide_ (bytes_app own2 IB.out IT.out)
      clear own2 hg own
      clear nG
      refine wpAnyH_ready (rs := [8]) (by kernel_rfl) (by simp) ?_
      refine AllReadyH.cons rfl (fun K hK => ?_) (AllReadyH.nil)
      go_simp
      refine (qd1.out _ _ hA.out).mono ?_
      rintro e D4 ⟨⟨rk, rfl, hrk⟩, bj⟩
      refine hK.out _ _ (kb3.trans (bj.mono kb3.size)) (fun hHeld => ?_)
      clear hK K
      try simp only [Act.put, List.setIfInBounds_toArray, List.set_cons_zero, List.set_cons_succ]
      have kb4 := kb3.trans (bj.mono kb3.size)
      replace G := hide_ (G.out.later bj)
      have R := hide_ hrk
      clear bj hA hrk
      refine takeR (i := 9) (v := ?_) rfl (by kernel_rfl) (by kernel_rfl) (by kernel_rfl) (some 31) rfl (Or.inl ⟨by rfl, ?_⟩) (fun _ _ _ h => h) (by assumption) ?_
      rotate_left
      · intro w hSw; (try dsimp only at hSw); go_simp; (try with_reducible rfl)
      simp only [Act.put, List.setIfInBounds_toArray, List.set_cons_zero, List.set_cons_succ]
      refine takeR (i := 10) (v := ?_) rfl (by kernel_rfl) (by kernel_rfl) (by kernel_rfl) (some 41) rfl (Or.inl ⟨by rfl, ?_⟩) (fun _ _ _ h => h) (by assumption) ?_
      rotate_left
      · intro w hSw; (try dsimp only at hSw); go_simp; (try with_reducible rfl)
      simp only [Act.put, List.setIfInBounds_toArray, List.set_cons_zero, List.set_cons_succ]
      refine takeR (i := 11) (v := ?_) rfl (by kernel_rfl) (by kernel_rfl) (by kernel_rfl) (some 42) rfl (Or.inl ⟨by rfl, ?_⟩) (fun _ _ _ h => h) (by assumption) ?_
      rotate_left
      · intro w hSw; (try dsimp only at hSw); go_simp; (try with_reducible rfl)
      simp only [Act.put, List.setIfInBounds_toArray, List.set_cons_zero, List.set_cons_succ]
      refine takeR (i := 12) (v := ?_) rfl (by kernel_rfl) (by kernel_rfl) (by kernel_rfl) (some 43) rfl (Or.inl ⟨by rfl, ?_⟩) (fun _ _ _ h => h) (by assumption) ?_
      rotate_left
      · intro w hSw; (try dsimp only at hSw); go_simp; (try with_reducible rfl)
      simp only [Act.put, List.setIfInBounds_toArray, List.set_cons_zero, List.set_cons_succ]
      refine takeR (i := 14) (v := ?_) rfl (by kernel_rfl) (by kernel_rfl) (by kernel_rfl) (some 7) rfl (Or.inl ⟨by rfl, ?_⟩) (fun _ _ _ h => h) (by assumption) ?_
      rotate_left
      · intro w hSw; (try dsimp only at hSw); go_simp; (try with_reducible rfl)
      simp only [Act.put, List.setIfInBounds_toArray, List.set_cons_zero, List.set_cons_succ]
      refine takeR (i := 15) (v := ?_) rfl (by kernel_rfl) (by kernel_rfl) (by kernel_rfl) (some 8) rfl (Or.inl ⟨by rfl, ?_⟩) (fun _ _ _ h => h) (by assumption) ?_
      rotate_left
      · intro w hSw; (try dsimp only at hSw); go_simp; (try with_reducible rfl)
      simp only [Act.put, List.setIfInBounds_toArray, List.set_cons_zero, List.set_cons_succ]
      refine wpAnyH_ready (rs := [16]) (by kernel_rfl) (by simp) ?_
      refine AllReadyH.cons rfl (fun K hK => ?_) (AllReadyH.nil)
      obtain ⟨z0, z1, z2, z3, z4, z5⟩ := G.out.three
      go_simp
      refine hK.out _ _ (below_set3 kb4 lG _ _ _) (fun hHeld => ?_)
      clear hK K
      try simp only [Act.put, List.setIfInBounds_toArray, List.set_cons_zero, List.set_cons_succ]
      clear z0 z1 z2 z3 z4 z5
      have HRW := hide_ (oxat_set3 R.out G.out (.bool false) (.int .i64 0) (.int .i64 0))
      replace G := hide_ (G.out.set3 (.bool false) (.int .i64 0) (.int .i64 0))
      have kb5 := below_set3 (g := g9) kb4 lG (.bool false) (.int .i64 0) (.int .i64 0)
      generalize (((D4.setCell ⟨g9, 0, none⟩ (.bool false)).setCell ⟨g9, 1, none⟩ (.int .i64 0)).setCell ⟨g9, 2, none⟩ (.int .i64 0)) = D5 at *
      refine wpAnyH_done (by kernel_rfl) ?_ _
      go_wp2_with fail
      go_meet
      exact ⟨g9, rfl, rfl, HRW.out, G.out, kb5⟩
  case rest =>
    obtain ⟨g9, rfl, rfl, R, G, kc⟩ := hcut
    have k1c := b1.trans (kc.mono b1.size)
    clear h1 qc S3 S30 qcl qd1 q1 s1 s2 gm HI IB IT H63 kc
    rcases HQ.out with ⟨cc, qd⟩ | ⟨K, n, hn, qd, p2⟩
    · have qd := hide_ qd
      clear HQ HBh
      go_wp2_with (first | (go_at_call 14; refine (qs.out _ _ k1c R).mono ?_; rintro e w6 ⟨rfl, b6⟩; have k6 := k1c.trans (b6.mono k1c.size); obtain ⟨vv0, vv1, vv2, -⟩ := (G.later b6).three) | (go_at_call_of 20 (Value.slice ao l.length cap); refine (qd.out _ k6).mono ?_; rintro e w2 ⟨rfl, bb2⟩; have k2 : Below w.heap.size w (w2.alloc (.cells #[.bool true, .int .i64 4, .int .i64 cc] 30)) := k6.trans ((bb2.trans ((below1 w2 _).mono bb2.size)).mono k6.size); obtain ⟨gg0, gg1, gg2, -⟩ := (AB.at0 w2 30 [.bool true, .int .i64 4, .int .i64 cc]).three) | (go_at_call 8; refine (aw.out _).mono ?_; rintro e w3 ⟨rfl, b3⟩))
      go_ret
      exact ⟨rfl, k2.trans (b3.mono k2.size)⟩
    · have qd := hide_ qd
      have p2 := hide_ p2
      obtain ⟨t1, t2, t3⟩ := bytes_take HBh.out n hn
      have T3 := hide_ t3
      have gn : ((n : Nat) : Int) ≤ (l.length : Int) := by omega
      clear t3 hn HQ HBh
      go_wp2_with (first | (go_at_call 14; refine (qs.out _ _ k1c R).mono ?_; rintro e w6 ⟨rfl, b6⟩; have k6 := k1c.trans (b6.mono k1c.size); obtain ⟨vv0, vv1, vv2, -⟩ := (G.later b6).three) | (go_at_call_of 20 (Value.slice ao l.length cap); refine (qd.out _ k6).mono ?_; rintro e w2 ⟨⟨r2, rfl, hr2⟩, bb2⟩; have k2 : Below w.heap.size w (w2.alloc (.cells #[.bool false, .int .i64 0, .int .i64 0] 30)) := k6.trans ((bb2.trans ((below1 w2 _).mono bb2.size)).mono k6.size); obtain ⟨gg0, gg1, gg2, -⟩ := (AB.at0 w2 30 [.bool false, .int .i64 0, .int .i64 0]).three; have HR2 := hide_ (hr2.later (below1 w2 (.cells #[.bool false, .int .i64 0, .int .i64 0] 30))); clear hr2) | (go_at_call_of 9 r2; refine (p2.out _ _ HR2.out).mono ?_; rintro e w3 ⟨⟨r3, rfl, h3⟩, b3⟩; have k3 := k2.trans (b3.mono k2.size); have qe := equal_any r3 _ _ _ w3 h3 (T3.out.later k3); rw [beq_self_eq_true] at qe; have qe := hide_ qe; clear h3) | (go_at_call 11; refine qe.out.mono ?_; rintro e w4 ⟨rfl, b4⟩; have k4 := k3.trans (b4.mono k3.size)) | (go_at_call 8; refine (aw.out _).mono ?_; rintro e w5 ⟨rfl, b5⟩))
      go_ret
      exact ⟨rfl, k4.trans (b5.mono k4.size)⟩


end Go.Proofs.Ytcffebkebldjcaa
