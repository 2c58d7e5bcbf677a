import Derived.Test.YtlincickgleddaaRx
import Derived.Deep.RegionHeld3
import Derived.Deep.RegionWith
import Derived.Deep.MidRow
import Derived.Deep.Cut
namespace Go.Proofs.Ytlincickgleddaa
open Go Go.RowKit
set_option linter.unusedVariables false
set_option linter.unusedSimpArgs false

set_option maxRecDepth 100000 in
set_option maxHeartbeats 4000000 in
theorem rrwbefore_any (l m : List Q4) (hl : isC l) (hm : isC m) (w : World) :
    Calls Try.prog 9 #[cv l, cv m] w fun e w' => e = .returned (.tuple #[cv (match okC l m with | true => woutC m l | false => z24q), .bool (okC l m)]) ∧ Below w.heap.size w w' := by
  have HL := hide_ hl
  have HM := hide_ hm
  obtain ⟨t, ht⟩ : ∃ t : Nat → Q4, (fun k => wout4 (cq m k) (cq l k)) = t := ⟨_, rfl⟩
  obtain ⟨p, hp⟩ : ∃ p : Nat → Bool, (fun k => mok4 (cq l k) (cq m k)) = p := ⟨_, rfl⟩
  have hop : okC l m = allB p 24 := by rw [← hp]; rfl
  have hmt : (match okC l m with | true => woutC m l | false => z24q) = mapB t p := by rw [hop, ← ht]; rfl
  have HTT := hide_ (fun k => congrFun ht k)
  have HPP := hide_ (fun k => congrFun hp k)
  rw [hmt, hop]
  clear ht hp hmt hop hl hm
  obtain ⟨R, hR⟩ : ∃ R, Value.tuple #[cv (mapB t p), .bool (allB p 24)] = R := ⟨_, rfl⟩
  have HT : Hid (allB p 24 = true → Value.tuple #[.agg (tdc (mapK t 24)).toArray, .bool true] = R) := hide_ (fun h => by rw [← hR, mapB_true h, h]; rfl)
  have HF : Hid (allB p 24 = false → Value.tuple #[.agg (tdc z24q).toArray, .bool false] = R) := hide_ (fun h => by rw [← hR, mapB_false h, h]; rfl)
  rw [hR]
  clear hR
  have A0 := hide_ ((((AB.at0 w 28 (tdc l)).alloc (.cells (tdc m).toArray 29)).alloc (.cells (tdc z24q).toArray 29)).alloc (.cells (tdc z24q).toArray 29))
  have C0 := hide_ (((AB.at1 w (.cells (tdc l).toArray 28) 29 (tdc m)).alloc (.cells (tdc z24q).toArray 29)).alloc (.cells (tdc z24q).toArray 29))
  have Z0 : Hid (AB ((((w.alloc (.cells (tdc l).toArray 28)).alloc (.cells (tdc m).toArray 29)).alloc (.cells (tdc z24q).toArray 29)).alloc (.cells (tdc z24q).toArray 29)) (w.heap.size + 1 + 1) 29 (tdc z24q)) := hide_ (by exact (AB.at2 w (.cells (tdc l).toArray 28) (.cells (tdc m).toArray 29) 29 (tdc z24q)).alloc _)
  have Y0 : Hid (AB ((((w.alloc (.cells (tdc l).toArray 28)).alloc (.cells (tdc m).toArray 29)).alloc (.cells (tdc z24q).toArray 29)).alloc (.cells (tdc z24q).toArray 29)) (w.heap.size + 1 + 1 + 1) 29 (tdc z24q)) := hide_ (by have := AB.at2 (w.alloc (.cells (tdc l).toArray 28)) (.cells (tdc m).toArray 29) (.cells (tdc z24q).toArray 29) 29 (tdc z24q); rwa [World.size_alloc] at this)
  have B0 := hide_ ((below3 w (.cells (tdc l).toArray 28) (.cells (tdc m).toArray 29) (.cells (tdc z24q).toArray 29)).alloc (by simp; omega) (.cells (tdc z24q).toArray 29))
  have k0 : mapK t 0 = z24q := by simp [mapK, z24q]
  unfold cv at *
  obtain ⟨hz0, -⟩ := zero_of_info zC'
  go_enter Try.func9, Try.ntmps9
  go_wp2_with (first | (refine wpList_storeA rfl (.tmp 6) (.tmp 10) rfl (w.heap.size + 1 + 1 + 1) (by simp [Act.eval, Act.put]) (tdc z24q) (tdc z24q) rfl (szC z24q_len) (tdc_one _) (by simp [Act.eval, Act.put]) Y0.out ?_))
  have A1 := hide_ (A0.out.row_far (f := w.heap.size + 1 + 1 + 1) (tdc z24q).toArray (by omega))
  have C1 := hide_ (C0.out.row_far (f := w.heap.size + 1 + 1 + 1) (tdc z24q).toArray (by omega))
  have Z1 := hide_ (Z0.out.row_far (f := w.heap.size + 1 + 1 + 1) (tdc z24q).toArray (by omega))
  have Y1 := hide_ (Y0.out.row (cs' := tdc z24q))
  have B1 := B0.out.trans (below_row _ (w.heap.size + 1 + 1 + 1) _ (tdc z24q).toArray (by omega))
  clear A0 C0 Z0 Y0 B0
  try simp only [Act.put]
  generalize ((((w.alloc (.cells (tdc l).toArray 28)).alloc (.cells (tdc m).toArray 29)).alloc (.cells (tdc z24q).toArray 29)).alloc (.cells (tdc z24q).toArray 29)).setRow (w.heap.size + 1 + 1 + 1) (tdc z24q).toArray = W at *
  go_loopw [7, 8, 9] (fun i _ _ wr => ∃ j : Nat, j ≤ 24 ∧ i = .int .i64 (j : Int) ∧ Hid (allB p j = true) ∧ Hid (AB wr w.heap.size 28 (tdc l)) ∧ Hid (AB wr (w.heap.size + 1) 29 (tdc m)) ∧ Hid (AB wr (w.heap.size + 1 + 1 + 1) 29 (tdc (mapK t j))) ∧ Hid (AB wr (w.heap.size + 1 + 1) 29 (tdc z24q)) ∧ Below w.heap.size w wr) (fun i _ _ _ => 24 - (intOf i).toNat)
  case atStart => exact ⟨0, by omega, rfl, hide_ rfl, A1, C1, by rw [k0]; exact Y1, Z1, B1⟩
  case round =>
    obtain ⟨j, hj, rfl, HP, HA, HC, HY, HZ, hb⟩ := hrel
    have hw1 := HY.out.lt
    by_cases hlt : j < 24
    · have hlt' : (j : Int) < 24 := by omega
      have hj0 : (0 : Int) ≤ (j : Int) := by omega
      obtain ⟨a, b, c, d, e1, h1, h2, h3, h4⟩ := HL.out.get hlt
      obtain ⟨a2, b2, c2, d2, e2, i1, i2, i3, i4⟩ := HM.out.get hlt
      have q := hide_ (fun w => rtmeet_ok a b c d a2 b2 c2 d2 w h1 h2 h3 h4 i1 i2 i3 i4)
      have HQ := hide_ (mapK_at t j hlt)
      have HS := mapK_set t j hlt
      have eT : t j = (a2 &&& andn c2 c, b2 &&& andn d2 d, andn c2 c, andn d2 d) := by rw [← HTT.out j, cq_at e1, cq_at e2]; rfl
      have eP : p j = mok a b c d a2 b2 c2 d2 := by rw [← HPP.out j, cq_at e1, cq_at e2]; rfl
      rw [eT] at HS
      have HS := hide_ HS
      clear eT
      have q1 := hide_ (fun w => rless_any c2 d2 c d w i3 i4 h3 h4)
      have q2 := hide_ (fun w => rtclean_any a2 b2 (andn c2 c) (andn d2 d) w i1 i2 (tandn_lt _ _ i3) (tandn_lt _ _ i4))
      generalize a2 &&& andn c2 c = x1 at *
      generalize b2 &&& andn d2 d = x2 at *
      generalize andn c2 c = p1 at *
      generalize andn d2 d = p2 at *
      unfold td at q2
      unfold wd at q1
      have E1 := hide_ e1
      have E2 := hide_ e2
      obtain ⟨o0, o1, o2, o3, -⟩ := HA.out.quad e1
      obtain ⟨o4, o5, o6, o7, -⟩ := HC.out.quad e2
      generalize mz (mok a b c d a2 b2 c2 d2) (a &&& c ||| a2 &&& c2) = m1 at *
      generalize mz (mok a b c d a2 b2 c2 d2) (b &&& d ||| b2 &&& d2) = m2 at *
      generalize mz (mok a b c d a2 b2 c2 d2) (c ||| c2) = m3 at *
      generalize mz (mok a b c d a2 b2 c2 d2) (d ||| d2) = m4 at *
      generalize mok a b c d a2 b2 c2 d2 = z at *
      have EP := hide_ eP
      clear eP e1 e2 h1 h2 h3 h4 i1 i2 i3 i4
      unfold td at q
      go_wp2_with fail
      refine wp_region_held_drew (S := (fun w' => w'.cell? ⟨w.heap.size, j * 4, none⟩ = some (.int .u64 (a : Int)) ∧ w'.cell? ⟨w.heap.size, j * 4 + 1, none⟩ = some (.int .u64 (b : Int)) ∧ w'.cell? ⟨w.heap.size, j * 4 + 2, none⟩ = some (.int .u64 (c : Int)) ∧ w'.cell? ⟨w.heap.size, j * 4 + 3, none⟩ = some (.int .u64 (d : Int)) ∧ w'.cell? ⟨(w.heap.size + 1), j * 4, none⟩ = some (.int .u64 (a2 : Int)) ∧ w'.cell? ⟨(w.heap.size + 1), j * 4 + 1, none⟩ = some (.int .u64 (b2 : Int)) ∧ w'.cell? ⟨(w.heap.size + 1), j * 4 + 2, none⟩ = some (.int .u64 (c2 : Int)) ∧ w'.cell? ⟨(w.heap.size + 1), j * 4 + 3, none⟩ = some (.int .u64 (d2 : Int)) ∧ Below wr.heap.size wr w')) (by kernel_rfl) (⟨o0, o1, o2, o3, o4, o5, o6, o7, (Below.refl _ _).drew⟩) (fun hHeld => ?_)
      refine takeR (i := 0) (v := ?_) rfl (by kernel_rfl) (by kernel_rfl) (by kernel_rfl) (some 16) rfl (Or.inl ⟨by rfl, ?_⟩) (fun _ _ _ h => h) (by assumption) ?_
      rotate_left
      · intro w hSw; (try dsimp only at hSw); go_simp; (try with_reducible rfl)
      simp only [Act.put, List.setIfInBounds_toArray, List.set_cons_zero, List.set_cons_succ]
      refine takeR (i := 1) (v := ?_) rfl (by kernel_rfl) (by kernel_rfl) (by kernel_rfl) (some 17) rfl (Or.inl ⟨by rfl, ?_⟩) (fun _ _ _ h => h) (by assumption) ?_
      rotate_left
      · intro w hSw; (try dsimp only at hSw); go_simp; (try with_reducible rfl)
      simp only [Act.put, List.setIfInBounds_toArray, List.set_cons_zero, List.set_cons_succ]
      refine takeR (i := 2) (v := ?_) rfl (by kernel_rfl) (by kernel_rfl) (by kernel_rfl) (some 18) rfl (Or.inl ⟨by rfl, ?_⟩) (fun _ _ _ h => h) (by assumption) ?_
      rotate_left
      · intro w hSw; (try dsimp only at hSw); go_simp; (try with_reducible rfl)
      simp only [Act.put, List.setIfInBounds_toArray, List.set_cons_zero, List.set_cons_succ]
      refine takeR (i := 3) (v := ?_) rfl (by kernel_rfl) (by kernel_rfl) (by kernel_rfl) (some 19) rfl (Or.inl ⟨by rfl, ?_⟩) (fun _ _ _ h => h) (by assumption) ?_
      rotate_left
      · intro w hSw; (try dsimp only at hSw); go_simp; (try with_reducible rfl)
      simp only [Act.put, List.setIfInBounds_toArray, List.set_cons_zero, List.set_cons_succ]
      refine takeR (i := 4) (v := ?_) rfl (by kernel_rfl) (by kernel_rfl) (by kernel_rfl) (some 20) rfl (Or.inl ⟨by rfl, ?_⟩) (fun _ _ _ h => h) (by assumption) ?_
      rotate_left
      · intro w hSw; (try dsimp only at hSw); go_simp; (try with_reducible rfl)
      simp only [Act.put, List.setIfInBounds_toArray, List.set_cons_zero, List.set_cons_succ]
      refine takeR (i := 5) (v := ?_) rfl (by kernel_rfl) (by kernel_rfl) (by kernel_rfl) (some 21) rfl (Or.inl ⟨by rfl, ?_⟩) (fun _ _ _ h => h) (by assumption) ?_
      rotate_left
      · intro w hSw; (try dsimp only at hSw); go_simp; (try with_reducible rfl)
      simp only [Act.put, List.setIfInBounds_toArray, List.set_cons_zero, List.set_cons_succ]
      refine wpAnyH_ready (rs := [6, 10]) (by kernel_rfl) (by simp) ?_
      refine AllReadyH.cons rfl (fun K hK => ?_) (AllReadyH.cons rfl (fun K hK => ?_) (AllReadyH.nil))
      · go_simp
        refine (q.out _).mono ?_
        rintro e w4 ⟨rfl, b4⟩
        have s4 : wr.heap.size ≤ w4.heap.size := (by have := b4.size; simp at this; omega)
        first | (have NB : AB w4 wr.heap.size 26 [.int .u64 (0 : Int), .int .u64 (0 : Int), .int .u64 (0 : Int), .int .u64 (0 : Int)] := (AB.at0 wr.drew 26 [.int .u64 (0 : Int), .int .u64 (0 : Int), .int .u64 (0 : Int), .int .u64 (0 : Int)]).later b4; obtain ⟨z0, z1, z2, z3, y0, y1, y2, y3⟩ := NB.four; clear NB) | skip
        refine hK.out _ _ (kN8 b4 hHeld) (fun hHeld => ?_)
        clear hK K
        try simp only [Act.put, List.setIfInBounds_toArray, List.set_cons_zero, List.set_cons_succ]
        refine takeR (i := 7) (v := ?_) rfl (by kernel_rfl) (by kernel_rfl) (by kernel_rfl) (some 15) rfl (Or.inl ⟨by rfl, ?_⟩) (fun _ _ _ h => h) (by assumption) ?_
        rotate_left
        · intro w hSw; (try dsimp only at hSw); go_simp; (try with_reducible rfl)
        simp only [Act.put, List.setIfInBounds_toArray, List.set_cons_zero, List.set_cons_succ]
        refine takeR (i := 8) (v := ?_) rfl (by kernel_rfl) (by kernel_rfl) (by kernel_rfl) (some 23) rfl (Or.inl ⟨by rfl, ?_⟩) (fun _ _ _ h => h) (by assumption) ?_
        rotate_left
        · intro w hSw; (try dsimp only at hSw); go_simp; (try with_reducible rfl)
        simp only [Act.put, List.setIfInBounds_toArray, List.set_cons_zero, List.set_cons_succ]
        refine takeR (i := 9) (v := ?_) rfl (by kernel_rfl) (by kernel_rfl) (by kernel_rfl) (some 24) rfl (Or.inl ⟨by rfl, ?_⟩) (fun _ _ _ h => h) (by assumption) ?_
        rotate_left
        · intro w hSw; (try dsimp only at hSw); go_simp; (try with_reducible rfl)
        simp only [Act.put, List.setIfInBounds_toArray, List.set_cons_zero, List.set_cons_succ]
        refine wpAnyH_ready (rs := [10]) (by kernel_rfl) (by simp) ?_
        refine AllReadyH.cons rfl (fun K hK => ?_) (AllReadyH.nil)
        go_simp
        refine hK.out _ _ (kN8 (below1 _ _) hHeld) (fun hHeld => ?_)
        clear hK K
        try simp only [Act.put, List.setIfInBounds_toArray, List.set_cons_zero, List.set_cons_succ]
        refine wpAnyH_ready (rs := [11]) (by kernel_rfl) (by simp) ?_
        refine AllReadyH.cons rfl (fun K hK => ?_) (AllReadyH.nil)
        go_simp
        refine hK.out _ _ (by first | (with_reducible exact keepA8a hHeld (by omega) (by dsimp only; omega) (by dsimp only; omega) (by dsimp only; omega) (by dsimp only; omega) (by dsimp only; omega) (by dsimp only; omega) (by dsimp only; omega) (by dsimp only; omega)) | (with_reducible exact keepA8s hHeld (by omega) (by dsimp only; omega) (by dsimp only; omega) (by dsimp only; omega) (by dsimp only; omega) (by dsimp only; omega) (by dsimp only; omega) (by dsimp only; omega) (by dsimp only; omega))) (fun hHeld => ?_)
        clear hK K
        try simp only [Act.put, List.setIfInBounds_toArray, List.set_cons_zero, List.set_cons_succ]
        refine takeR (i := 12) (v := ?_) rfl (by kernel_rfl) (by kernel_rfl) (by kernel_rfl) (some 9) rfl (Or.inl ⟨by rfl, ?_⟩) (fun _ _ _ h => h) (by assumption) ?_
        rotate_left
        · intro w hSw; (try dsimp only at hSw); go_simp; (try with_reducible rfl)
        simp only [Act.put, List.setIfInBounds_toArray, List.set_cons_zero, List.set_cons_succ]
        refine wpAnyH_done (by kernel_rfl) ?_ _
        have kk := hHeld.2.2.2.2.2.2.2.2
        clear hHeld
        generalize w4.alloc (.cells #[.int .u64 (m1 : Int), .int .u64 (m2 : Int), .int .u64 (m3 : Int), .int .u64 (m4 : Int)] 26) = V at *
        clear b4 o0 o1 o2 o3 o4 o5 o6 o7
        cases z
        · have HE := hide_ (HF.out (allB_false hlt EP.out))
          go_wp2_with (first | (refine wpList_storeA rfl (.tmp 4) (.tmp 27) rfl (w.heap.size + 1 + 1) (by simp [Act.eval, Act.put]) (tdc z24q) (tdc z24q) rfl (szC z24q_len) (tdc_one _) (by simp [Act.eval, Act.put]) (HZ.out.later kk) ?_))
          exact bodyPost_ret (results_A2 Try.underlying29 Try.results9 _ _ (w.heap.size + 1 + 1) (tdc z24q) (.bool false) (szC z24q_len) rfl rfl (HZ.out.later kk).row) rfl ⟨congrArg _ HE.out, (hb.trans (kk.mono hb.size)).trans (below_row _ _ _ _ (by omega))⟩
        · have HE : Hid (allB p (j + 1) = true) := hide_ (by rw [allB_succ, HP.out, EP.out]; rfl)
          have HA1 := hide_ (HA.out.later kk)
          have HC1 := hide_ (HC.out.later kk)
          have HY1 := hide_ (HY.out.later kk)
          have HZ1 := hide_ (HZ.out.later kk)
          have hb1 := hb.trans (kk.mono hb.size)
          clear HA HC HY HZ
          obtain ⟨u4, u5, u6, u7, -⟩ := HC1.out.quad E2.out
          obtain ⟨-, -, u2, u3, -⟩ := HA1.out.quad E1.out
          go_wp2_with fail
          go_region_held3 (fun w' => w'.cell? ⟨(w.heap.size + 1), j * 4, none⟩ = some (.int .u64 (a2 : Int)) ∧ w'.cell? ⟨(w.heap.size + 1), j * 4 + 1, none⟩ = some (.int .u64 (b2 : Int)) ∧ w'.cell? ⟨(w.heap.size + 1), j * 4 + 2, none⟩ = some (.int .u64 (c2 : Int)) ∧ w'.cell? ⟨(w.heap.size + 1), j * 4 + 3, none⟩ = some (.int .u64 (d2 : Int)) ∧ w'.cell? ⟨w.heap.size, j * 4 + 2, none⟩ = some (.int .u64 (c : Int)) ∧ w'.cell? ⟨w.heap.size, j * 4 + 3, none⟩ = some (.int .u64 (d : Int)) ∧ Below w.heap.size w w')
            (first | (with_reducible exact kN6 b6 (by assumption)) | (with_reducible exact kN6 b5 (by assumption)) | (with_reducible exact kQ6 (by assumption) (by omega) (by dsimp only; omega) (by dsimp only; omega) (by dsimp only; omega) (by dsimp only; omega) (by dsimp only; omega) (by dsimp only; omega)) | (exact ⟨u4, u5, u6, u7, u2, u3, hb1.drew⟩) | (exact ⟨u4, u5, u6, u7, u2, u3, hb1⟩))
            (first | (go_at_call 30; refine (q1.out _).mono ?_; rintro e w5 ⟨rfl, b5⟩; have k5 : Below V.heap.size V w5 := (Below.refl _ _).drew.trans b5) | (go_at_call 29; refine (q2.out _).mono ?_; rintro e w6 ⟨rfl, b6⟩; have k6 := k5.trans (b6.mono k5.size); obtain ⟨f0, f1, f2, f3, f4, f5, f6, f7⟩ := (HY1.out.later k6).quad HQ.out))
          all_goals
            go_wp2_with fail
            go_roundw
            case rel => exact ⟨j + 1, by omega, by go_num, HE, hide_ (((((HA1.out.later k6).far _ (by omega)).far _ (by omega)).far _ (by omega)).far _ (by omega)), hide_ (((((HC1.out.later k6).far _ (by omega)).far _ (by omega)).far _ (by omega)).far _ (by omega)), by rw [← HS.out]; exact hide_ ((HY1.out.later k6).setq j x1 x2 p1 p2), hide_ (((((HZ1.out.later k6).far _ (by omega)).far _ (by omega)).far _ (by omega)).far _ (by omega)), below_fillq (hb1.trans (k6.mono hb1.size)) (by omega) _ _ _ _ _ _ _ _⟩
            case measure => simp [intOf]; omega
      · go_simp
        refine hK.out _ _ (kN8 (below1 _ _) hHeld) (fun hHeld => ?_)
        clear hK K
        try simp only [Act.put, List.setIfInBounds_toArray, List.set_cons_zero, List.set_cons_succ]
        refine wpAnyH_ready (rs := [6]) (by kernel_rfl) (by simp) ?_
        refine AllReadyH.cons rfl (fun K hK => ?_) (AllReadyH.nil)
        go_simp
        refine (q.out _).mono ?_
        rintro e w4 ⟨rfl, b4⟩
        have s4 : wr.heap.size ≤ w4.heap.size := (by have := b4.size; simp at this; omega)
        first | (have NB : AB w4 wr.heap.size 26 [.int .u64 (0 : Int), .int .u64 (0 : Int), .int .u64 (0 : Int), .int .u64 (0 : Int)] := (AB.at0 wr.drew 26 [.int .u64 (0 : Int), .int .u64 (0 : Int), .int .u64 (0 : Int), .int .u64 (0 : Int)]).later b4; obtain ⟨z0, z1, z2, z3, y0, y1, y2, y3⟩ := NB.four; clear NB) | skip
        refine hK.out _ _ (kN8 b4 hHeld) (fun hHeld => ?_)
        clear hK K
        try simp only [Act.put, List.setIfInBounds_toArray, List.set_cons_zero, List.set_cons_succ]
        refine takeR (i := 7) (v := ?_) rfl (by kernel_rfl) (by kernel_rfl) (by kernel_rfl) (some 15) rfl (Or.inl ⟨by rfl, ?_⟩) (fun _ _ _ h => h) (by assumption) ?_
        rotate_left
        · intro w hSw; (try dsimp only at hSw); go_simp; (try with_reducible rfl)
        simp only [Act.put, List.setIfInBounds_toArray, List.set_cons_zero, List.set_cons_succ]
        refine takeR (i := 8) (v := ?_) rfl (by kernel_rfl) (by kernel_rfl) (by kernel_rfl) (some 23) rfl (Or.inl ⟨by rfl, ?_⟩) (fun _ _ _ h => h) (by assumption) ?_
        rotate_left
        · intro w hSw; (try dsimp only at hSw); go_simp; (try with_reducible rfl)
        simp only [Act.put, List.setIfInBounds_toArray, List.set_cons_zero, List.set_cons_succ]
        refine takeR (i := 9) (v := ?_) rfl (by kernel_rfl) (by kernel_rfl) (by kernel_rfl) (some 24) rfl (Or.inl ⟨by rfl, ?_⟩) (fun _ _ _ h => h) (by assumption) ?_
        rotate_left
        · intro w hSw; (try dsimp only at hSw); go_simp; (try with_reducible rfl)
        simp only [Act.put, List.setIfInBounds_toArray, List.set_cons_zero, List.set_cons_succ]
        refine wpAnyH_ready (rs := [11]) (by kernel_rfl) (by simp) ?_
        refine AllReadyH.cons rfl (fun K hK => ?_) (AllReadyH.nil)
        go_simp
        refine hK.out _ _ (by first | (with_reducible exact keepA8a hHeld (by omega) (by dsimp only; omega) (by dsimp only; omega) (by dsimp only; omega) (by dsimp only; omega) (by dsimp only; omega) (by dsimp only; omega) (by dsimp only; omega) (by dsimp only; omega)) | (with_reducible exact keepA8s hHeld (by omega) (by dsimp only; omega) (by dsimp only; omega) (by dsimp only; omega) (by dsimp only; omega) (by dsimp only; omega) (by dsimp only; omega) (by dsimp only; omega) (by dsimp only; omega))) (fun hHeld => ?_)
        clear hK K
        try simp only [Act.put, List.setIfInBounds_toArray, List.set_cons_zero, List.set_cons_succ]
        refine takeR (i := 12) (v := ?_) rfl (by kernel_rfl) (by kernel_rfl) (by kernel_rfl) (some 9) rfl (Or.inl ⟨by rfl, ?_⟩) (fun _ _ _ h => h) (by assumption) ?_
        rotate_left
        · intro w hSw; (try dsimp only at hSw); go_simp; (try with_reducible rfl)
        simp only [Act.put, List.setIfInBounds_toArray, List.set_cons_zero, List.set_cons_succ]
        refine wpAnyH_done (by kernel_rfl) ?_ _
        have kk := hHeld.2.2.2.2.2.2.2.2
        clear hHeld
        generalize (((w4.setCell ⟨wr.heap.size, 0, none⟩ (.int .u64 (m1 : Int))).setCell ⟨wr.heap.size, 1, none⟩ (.int .u64 (m2 : Int))).setCell ⟨wr.heap.size, 2, none⟩ (.int .u64 (m3 : Int))).setCell ⟨wr.heap.size, 3, none⟩ (.int .u64 (m4 : Int)) = V at *
        clear b4 o0 o1 o2 o3 o4 o5 o6 o7
        cases z
        · have HE := hide_ (HF.out (allB_false hlt EP.out))
          go_wp2_with (first | (refine wpList_storeA rfl (.tmp 4) (.tmp 27) rfl (w.heap.size + 1 + 1) (by simp [Act.eval, Act.put]) (tdc z24q) (tdc z24q) rfl (szC z24q_len) (tdc_one _) (by simp [Act.eval, Act.put]) (HZ.out.later kk) ?_))
          exact bodyPost_ret (results_A2 Try.underlying29 Try.results9 _ _ (w.heap.size + 1 + 1) (tdc z24q) (.bool false) (szC z24q_len) rfl rfl (HZ.out.later kk).row) rfl ⟨congrArg _ HE.out, (hb.trans (kk.mono hb.size)).trans (below_row _ _ _ _ (by omega))⟩
        · have HE : Hid (allB p (j + 1) = true) := hide_ (by rw [allB_succ, HP.out, EP.out]; rfl)
          have HA1 := hide_ (HA.out.later kk)
          have HC1 := hide_ (HC.out.later kk)
          have HY1 := hide_ (HY.out.later kk)
          have HZ1 := hide_ (HZ.out.later kk)
          have hb1 := hb.trans (kk.mono hb.size)
          clear HA HC HY HZ
          obtain ⟨u4, u5, u6, u7, -⟩ := HC1.out.quad E2.out
          obtain ⟨-, -, u2, u3, -⟩ := HA1.out.quad E1.out
          go_wp2_with fail
          go_region_held3 (fun w' => w'.cell? ⟨(w.heap.size + 1), j * 4, none⟩ = some (.int .u64 (a2 : Int)) ∧ w'.cell? ⟨(w.heap.size + 1), j * 4 + 1, none⟩ = some (.int .u64 (b2 : Int)) ∧ w'.cell? ⟨(w.heap.size + 1), j * 4 + 2, none⟩ = some (.int .u64 (c2 : Int)) ∧ w'.cell? ⟨(w.heap.size + 1), j * 4 + 3, none⟩ = some (.int .u64 (d2 : Int)) ∧ w'.cell? ⟨w.heap.size, j * 4 + 2, none⟩ = some (.int .u64 (c : Int)) ∧ w'.cell? ⟨w.heap.size, j * 4 + 3, none⟩ = some (.int .u64 (d : Int)) ∧ Below w.heap.size w w')
            (first | (with_reducible exact kN6 b6 (by assumption)) | (with_reducible exact kN6 b5 (by assumption)) | (with_reducible exact kQ6 (by assumption) (by omega) (by dsimp only; omega) (by dsimp only; omega) (by dsimp only; omega) (by dsimp only; omega) (by dsimp only; omega) (by dsimp only; omega)) | (exact ⟨u4, u5, u6, u7, u2, u3, hb1.drew⟩) | (exact ⟨u4, u5, u6, u7, u2, u3, hb1⟩))
            (first | (go_at_call 30; refine (q1.out _).mono ?_; rintro e w5 ⟨rfl, b5⟩; have k5 : Below V.heap.size V w5 := (Below.refl _ _).drew.trans b5) | (go_at_call 29; refine (q2.out _).mono ?_; rintro e w6 ⟨rfl, b6⟩; have k6 := k5.trans (b6.mono k5.size); obtain ⟨f0, f1, f2, f3, f4, f5, f6, f7⟩ := (HY1.out.later k6).quad HQ.out))
          all_goals
            go_wp2_with fail
            go_roundw
            case rel => exact ⟨j + 1, by omega, by go_num, HE, hide_ (((((HA1.out.later k6).far _ (by omega)).far _ (by omega)).far _ (by omega)).far _ (by omega)), hide_ (((((HC1.out.later k6).far _ (by omega)).far _ (by omega)).far _ (by omega)).far _ (by omega)), by rw [← HS.out]; exact hide_ ((HY1.out.later k6).setq j x1 x2 p1 p2), hide_ (((((HZ1.out.later k6).far _ (by omega)).far _ (by omega)).far _ (by omega)).far _ (by omega)), below_fillq (hb1.trans (k6.mono hb1.size)) (by omega) _ _ _ _ _ _ _ _⟩
            case measure => simp [intOf]; omega
    · have hlt' : ¬ (j : Int) < 24 := by omega
      have e : j = 24 := by omega
      subst e
      have HE := hide_ (HT.out HP.out)
      go_wp2_with (first | (refine wpList_loadA Try.underlying29 rfl (.tmp 6) rfl (w.heap.size + 1 + 1 + 1) (by simp [Act.eval, Act.put]) (tdc (mapK t 24)) (szC (mapK_len t 24 (Nat.le_refl _))) HY.out ?_) | (refine wpList_storeA rfl (.tmp 4) (.tmp 45) rfl (w.heap.size + 1 + 1) (by simp [Act.eval, Act.put]) (tdc z24q) (tdc (mapK t 24)) (by rw [tdc_length, tdc_length, mapK_len t 24 (Nat.le_refl _), z24q_len]) (szC (mapK_len t 24 (Nat.le_refl _))) (tdc_one _) (by simp [Act.eval, Act.put]) HZ.out ?_))
      exact bodyPost_ret (results_A2 Try.underlying29 Try.results9 _ _ (w.heap.size + 1 + 1) (tdc (mapK t 24)) (.bool true) (szC (mapK_len t 24 (Nat.le_refl _))) rfl rfl HZ.out.row) rfl ⟨congrArg _ HE.out, hb.trans (below_row _ _ _ _ (by omega))⟩


end Go.Proofs.Ytlincickgleddaa
