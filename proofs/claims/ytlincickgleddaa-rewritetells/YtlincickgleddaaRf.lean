import Derived.Test.YtlincickgleddaaRi
import Derived.Deep.RegionHeld3
import Derived.Deep.RegionWith
import Derived.Deep.MidRow
import Derived.Deep.Cut
namespace Go.Proofs.Ytlincickgleddaa
open Go Go.RowKit
set_option linter.unusedVariables false
set_option linter.unusedSimpArgs false

set_option maxRecDepth 100000 in
set_option maxHeartbeats 4000000 in
theorem rrwthen_any (l m : List Q4) (hl : isC l) (hm : isC m) (w : World) :
    Calls Try.prog 13 #[cv l, cv m] w fun e w' => e = .returned (cv (thenC l m)) ∧ Below w.heap.size w w' := by
  have q1 := hide_ (fun w => rrwclean_any l hl w)
  have q2 := hide_ (fun w => rrwclean_any m hm w)
  have hL := hide_ hl.1
  have hM := hide_ hm.1
  have HLC := hide_ (cleanC_isC hl)
  have HMC := hide_ (cleanC_isC hm)
  obtain ⟨t, ht⟩ : ∃ t : Nat → Q4, (fun k => over4 (cq l k) (cq m k)) = t := ⟨_, rfl⟩
  have HT : Hid (∀ k, k < 24 → t k = rover4 (cq (cleanC l) k) (cq (cleanC m) k)) := hide_ (fun k hk => by
    rw [cq_clean l k hk, cq_clean m k hk, ← ht]
    obtain ⟨-, -, h1, h2⟩ := hl.cq k
    obtain ⟨-, -, h3, h4⟩ := hm.cq k
    exact (rover4_eq _ _ h1 h2 h3 h4).symm)
  have hap : thenC l m = updK (cleanC l) t 24 := by rw [updK_all (cleanC l) t (map_len _), ← ht]; rfl
  rw [hap]
  have HLN := hide_ (show (updK (cleanC l) t 24).length = 24 by rw [updK_len]; exact map_len _)
  clear hap ht hl hm
  generalize cleanC l = L at *
  generalize cleanC m = M at *
  have HL := hide_ HLC.out.1
  have HM := hide_ HMC.out.1
  have A0 := hide_ (((AB.at0 w 28 (tdc l)).alloc (.cells (tdc m).toArray 28)).alloc (.cells (tdc z24q).toArray 28))
  have H0 := hide_ ((AB.at1 w (.cells (tdc l).toArray 28) 28 (tdc m)).alloc (.cells (tdc z24q).toArray 28))
  have Z0 := hide_ (AB.at2 w (.cells (tdc l).toArray 28) (.cells (tdc m).toArray 28) 28 (tdc z24q))
  have B0 := hide_ (below3 w (.cells (tdc l).toArray 28) (.cells (tdc m).toArray 28) (.cells (tdc z24q).toArray 28))
  unfold cv at *
  obtain ⟨hz0, -⟩ := zero_of_info zR'
  go_enter Try.func13, Try.ntmps13
  go_wp2_with fail
  generalize (((w.alloc (.cells (tdc l).toArray 28)).alloc (.cells (tdc m).toArray 28)).alloc (.cells (tdc z24q).toArray 28)) = W at *
  refine Code.wp_mono (Q := fun e a' w' => e = .normal ∧ a' = ⟨#[.agg (tdc l).toArray, .agg (tdc m).toArray, .pointer (some ⟨w.heap.size, 0, none⟩), .pointer (some ⟨(w.heap.size + 1), 0, none⟩), .pointer (some ⟨(w.heap.size + 1 + 1), 0, none⟩), undef, .agg (tdc l).toArray, .agg (tdc L).toArray, .agg (tdc m).toArray, .agg (tdc M).toArray, undef, undef, undef, undef, undef, undef, undef, undef, undef, undef, undef, undef, undef, undef, undef, undef, undef, undef, undef, undef, undef, undef, undef, undef, undef, undef, undef, undef, undef, undef, undef], []⟩ ∧ Hid (AB w' w.heap.size 28 (tdc L)) ∧ Hid (AB w' (w.heap.size + 1) 28 (tdc M)) ∧ Hid (AB w' (w.heap.size + 1 + 1) 28 (tdc z24q)) ∧ Below w.heap.size w w') (fun e a' w' hq => ?_) ?_
  rotate_left
  · refine wp_region_any (by kernel_rfl) ?_
    try (change wpAny _ _ _ _ _ _ _ (World.drew _))
    refine wpAny_ready (rs := [0, 2]) (by kernel_rfl) (by simp) ?_
    refine AllReady.cons rfl (fun K hK => ?_) (AllReady.cons rfl (fun K hK => ?_) (AllReady.nil))
    · rw [if_pos (by rfl)]
      refine wp_load_row 28 (.tmp 2) rfl w.heap.size rfl 28 (tdc l).toArray (0, 0) _ (by first | exact A0.out | exact A0.out.later k1) Try.underlying28 rfl (by simpa using szR hL.out) ?_
      refine hK _ _ ?_
      clear hK K
      try simp only [Act.put, List.setIfInBounds_toArray, List.set_cons_zero, List.set_cons_succ]
      refine wpAny_ready (rs := [1, 2]) (by kernel_rfl) (by simp) ?_
      refine AllReady.cons rfl (fun K hK => ?_) (AllReady.cons rfl (fun K hK => ?_) (AllReady.nil))
      · go_simp
        refine (q1.out _).mono ?_
        rintro e w1 ⟨rfl, b1⟩
        have k1 : Below W.heap.size W w1 := (Below.refl _ _).drew.trans b1
        refine hK _ _ ?_
        clear hK K
        try simp only [Act.put, List.setIfInBounds_toArray, List.set_cons_zero, List.set_cons_succ]
        refine wpAny_ready (rs := [2]) (by kernel_rfl) (by simp) ?_
        refine AllReady.cons rfl (fun K hK => ?_) (AllReady.nil)
        · rw [if_pos (by rfl)]
          refine wp_load_row 28 (.tmp 3) rfl (w.heap.size + 1) rfl 28 (tdc m).toArray (0, 0) _ (by first | exact H0.out | exact H0.out.later k1) Try.underlying28 rfl (by simpa using szR hM.out) ?_
          refine hK _ _ ?_
          clear hK K
          try simp only [Act.put, List.setIfInBounds_toArray, List.set_cons_zero, List.set_cons_succ]
          refine wpAny_ready (rs := [3]) (by kernel_rfl) (by simp) ?_
          refine AllReady.cons rfl (fun K hK => ?_) (AllReady.nil)
          · go_simp
            refine (q2.out _).mono ?_
            rintro e w2 ⟨rfl, b2⟩
            have k2 : Below W.heap.size W w2 := k1.trans (b2.mono k1.size)
            refine hK _ _ ?_
            clear hK K
            try simp only [Act.put, List.setIfInBounds_toArray, List.set_cons_zero, List.set_cons_succ]
            refine wpAny_ready (rs := [4]) (by kernel_rfl) (by simp) ?_
            refine AllReady.cons rfl (fun K hK => ?_) (AllReady.nil)
            · rw [if_pos (by rfl)]
              refine wp_store_row 28 (.tmp 2) (.tmp 7) rfl w.heap.size (tdc L).toArray rfl rfl 28 (tdc l).toArray (A0.out.later k2) (by simpa using szR HL.out) (by simp [tdc_length, hL.out, HL.out]) (all_oneCell_toArray (tdc_one L)) ?_
              refine hK _ _ ?_
              clear hK K
              try simp only [Act.put, List.setIfInBounds_toArray, List.set_cons_zero, List.set_cons_succ]
              refine wpAny_ready (rs := [5]) (by kernel_rfl) (by simp) ?_
              refine AllReady.cons rfl (fun K hK => ?_) (AllReady.nil)
              · rw [if_pos (by rfl)]
                refine wp_store_row 28 (.tmp 3) (.tmp 9) rfl (w.heap.size + 1) (tdc M).toArray rfl rfl 28 (tdc m).toArray ((H0.out.later k2).row_far _ (by omega)) (by simpa using szR HM.out) (by simp [tdc_length, hM.out, HM.out]) (all_oneCell_toArray (tdc_one M)) ?_
                refine hK _ _ ?_
                clear hK K
                try simp only [Act.put, List.setIfInBounds_toArray, List.set_cons_zero, List.set_cons_succ]
                refine wpAny_done (by kernel_rfl) ?_ _
                exact ⟨rfl, rfl, hide_ (((A0.out.later k2).row (cs' := tdc L)).row_far _ (by omega)), hide_ (((H0.out.later k2).row_far _ (by omega)).row), hide_ (((Z0.out.later k2).row_far _ (by omega)).row_far _ (by omega)), ((B0.out.trans (k2.mono B0.out.size)).trans (below_row _ _ _ _ (by omega))).trans (below_row _ _ _ _ (by omega))⟩
      · rw [if_pos (by rfl)]
        refine wp_load_row 28 (.tmp 3) rfl (w.heap.size + 1) rfl 28 (tdc m).toArray (0, 0) _ (by first | exact H0.out | exact H0.out.later k1) Try.underlying28 rfl (by simpa using szR hM.out) ?_
        refine hK _ _ ?_
        clear hK K
        try simp only [Act.put, List.setIfInBounds_toArray, List.set_cons_zero, List.set_cons_succ]
        refine wpAny_ready (rs := [1]) (by kernel_rfl) (by simp) ?_
        refine AllReady.cons rfl (fun K hK => ?_) (AllReady.nil)
        · go_simp
          refine (q1.out _).mono ?_
          rintro e w1 ⟨rfl, b1⟩
          have k1 : Below W.heap.size W w1 := (Below.refl _ _).drew.trans b1
          refine hK _ _ ?_
          clear hK K
          try simp only [Act.put, List.setIfInBounds_toArray, List.set_cons_zero, List.set_cons_succ]
          refine wpAny_ready (rs := [3]) (by kernel_rfl) (by simp) ?_
          refine AllReady.cons rfl (fun K hK => ?_) (AllReady.nil)
          · go_simp
            refine (q2.out _).mono ?_
            rintro e w2 ⟨rfl, b2⟩
            have k2 : Below W.heap.size W w2 := k1.trans (b2.mono k1.size)
            refine hK _ _ ?_
            clear hK K
            try simp only [Act.put, List.setIfInBounds_toArray, List.set_cons_zero, List.set_cons_succ]
            refine wpAny_ready (rs := [4]) (by kernel_rfl) (by simp) ?_
            refine AllReady.cons rfl (fun K hK => ?_) (AllReady.nil)
            · rw [if_pos (by rfl)]
              refine wp_store_row 28 (.tmp 2) (.tmp 7) rfl w.heap.size (tdc L).toArray rfl rfl 28 (tdc l).toArray (A0.out.later k2) (by simpa using szR HL.out) (by simp [tdc_length, hL.out, HL.out]) (all_oneCell_toArray (tdc_one L)) ?_
              refine hK _ _ ?_
              clear hK K
              try simp only [Act.put, List.setIfInBounds_toArray, List.set_cons_zero, List.set_cons_succ]
              refine wpAny_ready (rs := [5]) (by kernel_rfl) (by simp) ?_
              refine AllReady.cons rfl (fun K hK => ?_) (AllReady.nil)
              · rw [if_pos (by rfl)]
                refine wp_store_row 28 (.tmp 3) (.tmp 9) rfl (w.heap.size + 1) (tdc M).toArray rfl rfl 28 (tdc m).toArray ((H0.out.later k2).row_far _ (by omega)) (by simpa using szR HM.out) (by simp [tdc_length, hM.out, HM.out]) (all_oneCell_toArray (tdc_one M)) ?_
                refine hK _ _ ?_
                clear hK K
                try simp only [Act.put, List.setIfInBounds_toArray, List.set_cons_zero, List.set_cons_succ]
                refine wpAny_done (by kernel_rfl) ?_ _
                exact ⟨rfl, rfl, hide_ (((A0.out.later k2).row (cs' := tdc L)).row_far _ (by omega)), hide_ (((H0.out.later k2).row_far _ (by omega)).row), hide_ (((Z0.out.later k2).row_far _ (by omega)).row_far _ (by omega)), ((B0.out.trans (k2.mono B0.out.size)).trans (below_row _ _ _ _ (by omega))).trans (below_row _ _ _ _ (by omega))⟩
    · rw [if_pos (by rfl)]
      refine wp_load_row 28 (.tmp 3) rfl (w.heap.size + 1) rfl 28 (tdc m).toArray (0, 0) _ (by first | exact H0.out | exact H0.out.later k1) Try.underlying28 rfl (by simpa using szR hM.out) ?_
      refine hK _ _ ?_
      clear hK K
      try simp only [Act.put, List.setIfInBounds_toArray, List.set_cons_zero, List.set_cons_succ]
      refine wpAny_ready (rs := [0]) (by kernel_rfl) (by simp) ?_
      refine AllReady.cons rfl (fun K hK => ?_) (AllReady.nil)
      · rw [if_pos (by rfl)]
        refine wp_load_row 28 (.tmp 2) rfl w.heap.size rfl 28 (tdc l).toArray (0, 0) _ (by first | exact A0.out | exact A0.out.later k1) Try.underlying28 rfl (by simpa using szR hL.out) ?_
        refine hK _ _ ?_
        clear hK K
        try simp only [Act.put, List.setIfInBounds_toArray, List.set_cons_zero, List.set_cons_succ]
        refine wpAny_ready (rs := [1]) (by kernel_rfl) (by simp) ?_
        refine AllReady.cons rfl (fun K hK => ?_) (AllReady.nil)
        · go_simp
          refine (q1.out _).mono ?_
          rintro e w1 ⟨rfl, b1⟩
          have k1 : Below W.heap.size W w1 := (Below.refl _ _).drew.trans b1
          refine hK _ _ ?_
          clear hK K
          try simp only [Act.put, List.setIfInBounds_toArray, List.set_cons_zero, List.set_cons_succ]
          refine wpAny_ready (rs := [3]) (by kernel_rfl) (by simp) ?_
          refine AllReady.cons rfl (fun K hK => ?_) (AllReady.nil)
          · go_simp
            refine (q2.out _).mono ?_
            rintro e w2 ⟨rfl, b2⟩
            have k2 : Below W.heap.size W w2 := k1.trans (b2.mono k1.size)
            refine hK _ _ ?_
            clear hK K
            try simp only [Act.put, List.setIfInBounds_toArray, List.set_cons_zero, List.set_cons_succ]
            refine wpAny_ready (rs := [4]) (by kernel_rfl) (by simp) ?_
            refine AllReady.cons rfl (fun K hK => ?_) (AllReady.nil)
            · rw [if_pos (by rfl)]
              refine wp_store_row 28 (.tmp 2) (.tmp 7) rfl w.heap.size (tdc L).toArray rfl rfl 28 (tdc l).toArray (A0.out.later k2) (by simpa using szR HL.out) (by simp [tdc_length, hL.out, HL.out]) (all_oneCell_toArray (tdc_one L)) ?_
              refine hK _ _ ?_
              clear hK K
              try simp only [Act.put, List.setIfInBounds_toArray, List.set_cons_zero, List.set_cons_succ]
              refine wpAny_ready (rs := [5]) (by kernel_rfl) (by simp) ?_
              refine AllReady.cons rfl (fun K hK => ?_) (AllReady.nil)
              · rw [if_pos (by rfl)]
                refine wp_store_row 28 (.tmp 3) (.tmp 9) rfl (w.heap.size + 1) (tdc M).toArray rfl rfl 28 (tdc m).toArray ((H0.out.later k2).row_far _ (by omega)) (by simpa using szR HM.out) (by simp [tdc_length, hM.out, HM.out]) (all_oneCell_toArray (tdc_one M)) ?_
                refine hK _ _ ?_
                clear hK K
                try simp only [Act.put, List.setIfInBounds_toArray, List.set_cons_zero, List.set_cons_succ]
                refine wpAny_done (by kernel_rfl) ?_ _
                exact ⟨rfl, rfl, hide_ (((A0.out.later k2).row (cs' := tdc L)).row_far _ (by omega)), hide_ (((H0.out.later k2).row_far _ (by omega)).row), hide_ (((Z0.out.later k2).row_far _ (by omega)).row_far _ (by omega)), ((B0.out.trans (k2.mono B0.out.size)).trans (below_row _ _ _ _ (by omega))).trans (below_row _ _ _ _ (by omega))⟩
  obtain ⟨rfl, rfl, A1, H1, Z1, B1⟩ := hq
  clear A0 H0 Z0 B0 q1 q2 hL hM
  go_wp2_with fail
  go_loopw [5] (fun i wr => ∃ j : Nat, j ≤ 24 ∧ i = .int .i64 (j : Int) ∧ Hid (AB wr w.heap.size 28 (tdc (updK L t j))) ∧ Hid (AB wr (w.heap.size + 1) 28 (tdc M)) ∧ Hid (AB wr (w.heap.size + 1 + 1) 28 (tdc z24q)) ∧ Below w.heap.size w wr) (fun i _ => 24 - (intOf i).toNat)
  case atStart => exact ⟨0, by omega, rfl, A1, H1, Z1, B1⟩
  case round =>
    clear A1 H1 Z1 B1
    obtain ⟨j, hj, rfl, HA, HH, HZ, hb⟩ := hrel
    by_cases hlt : j < 24
    · have hlt' : (j : Int) < 24 := by omega
      have hj0 : (0 : Int) ≤ (j : Int) := by omega
      obtain ⟨a, b, c, d, e1, h1, h2, h3, h4⟩ := HLC.out.get hlt
      obtain ⟨a2, b2, c2, d2, e2, i1, i2, i3, i4⟩ := HMC.out.get hlt
      have HQ := hide_ ((updK_at L t j j (Nat.le_refl _)).trans e1)
      have HS : Hid ((updK L t j).set j (andn a c2 ||| a2, andn b d2 ||| b2, c ||| c2, d ||| d2) = updK L t (j + 1)) := hide_ (by rw [updK, HT.out j hlt, cq_at e1, cq_at e2]; rfl)
      have q1 := hide_ (fun w => rless_any a b c2 d2 w h1 h2 i3 i4)
      have q2 := hide_ (fun w => ror_any (andn a c2) (andn b d2) a2 b2 w (tandn_lt _ _ h1) (tandn_lt _ _ h2) i1 i2)
      have q3 := hide_ (fun w => ror_any c d c2 d2 w h3 h4 i3 i4)
      obtain ⟨o0, o1, o2, o3, -⟩ := HA.out.quad HQ.out
      obtain ⟨o4, o5, o6, o7, -⟩ := HH.out.quad e2
      generalize andn a c2 ||| a2 = r1 at *
      generalize andn b d2 ||| b2 = r2 at *
      generalize c ||| c2 = r3 at *
      generalize d ||| d2 = r4 at *
      generalize andn a c2 = p1 at *
      generalize andn b d2 = p2 at *
      unfold wd at q1 q2 q3
      clear e1 h1 h2 h3 h4 e2 i1 i2 i3 i4
      go_wp2_with fail
      refine wp_region_held_drew (S := (fun w' => w'.cell? ⟨(w.heap.size + 1), j * 4, none⟩ = some (.int .u64 (a2 : Int)) ∧ w'.cell? ⟨(w.heap.size + 1), j * 4 + 1, none⟩ = some (.int .u64 (b2 : Int)) ∧ w'.cell? ⟨(w.heap.size + 1), j * 4 + 2, none⟩ = some (.int .u64 (c2 : Int)) ∧ w'.cell? ⟨(w.heap.size + 1), j * 4 + 3, none⟩ = some (.int .u64 (d2 : Int)) ∧ Below w.heap.size w w')) (by kernel_rfl) (⟨o4, o5, o6, o7, hb.drew⟩) (fun hHeld => ?_)
      refine takeR (i := 0) (v := ?_) rfl (by kernel_rfl) (by kernel_rfl) (by kernel_rfl) (some 14) rfl (Or.inl ⟨by rfl, ?_⟩) (fun _ _ _ h => h) (by assumption) ?_
      rotate_left
      · intro w hSw; (try dsimp only at hSw); go_simp; (try with_reducible rfl)
      simp only [Act.put, List.setIfInBounds_toArray, List.set_cons_zero, List.set_cons_succ]
      refine takeR (i := 1) (v := ?_) rfl (by kernel_rfl) (by kernel_rfl) (by kernel_rfl) (some 15) rfl (Or.inl ⟨by rfl, ?_⟩) (fun _ _ _ h => h) (by assumption) ?_
      rotate_left
      · intro w hSw; (try dsimp only at hSw); go_simp; (try with_reducible rfl)
      simp only [Act.put, List.setIfInBounds_toArray, List.set_cons_zero, List.set_cons_succ]
      refine takeR (i := 2) (v := ?_) rfl (by kernel_rfl) (by kernel_rfl) (by kernel_rfl) (some 16) rfl (Or.inl ⟨by rfl, ?_⟩) (fun _ _ _ h => h) (by assumption) ?_
      rotate_left
      · intro w hSw; (try dsimp only at hSw); go_simp; (try with_reducible rfl)
      simp only [Act.put, List.setIfInBounds_toArray, List.set_cons_zero, List.set_cons_succ]
      refine takeR (i := 3) (v := ?_) rfl (by kernel_rfl) (by kernel_rfl) (by kernel_rfl) (some 17) rfl (Or.inl ⟨by rfl, ?_⟩) (fun _ _ _ h => h) (by assumption) ?_
      rotate_left
      · intro w hSw; (try dsimp only at hSw); go_simp; (try with_reducible rfl)
      simp only [Act.put, List.setIfInBounds_toArray, List.set_cons_zero, List.set_cons_succ]
      refine takeR (i := 5) (v := ?_) rfl (by kernel_rfl) (by kernel_rfl) (by kernel_rfl) (some 19) rfl (Or.inl ⟨by rfl, ?_⟩) (fun _ _ _ h => h) (by assumption) ?_
      rotate_left
      · intro w hSw; (try dsimp only at hSw); go_simp; (try with_reducible rfl)
      simp only [Act.put, List.setIfInBounds_toArray, List.set_cons_zero, List.set_cons_succ]
      refine takeR (i := 6) (v := ?_) rfl (by kernel_rfl) (by kernel_rfl) (by kernel_rfl) (some 20) rfl (Or.inl ⟨by rfl, ?_⟩) (fun _ _ _ h => h) (by assumption) ?_
      rotate_left
      · intro w hSw; (try dsimp only at hSw); go_simp; (try with_reducible rfl)
      simp only [Act.put, List.setIfInBounds_toArray, List.set_cons_zero, List.set_cons_succ]
      refine takeR (i := 7) (v := ?_) rfl (by kernel_rfl) (by kernel_rfl) (by kernel_rfl) (some 21) rfl (Or.inl ⟨by rfl, ?_⟩) (fun _ _ _ h => h) (by assumption) ?_
      rotate_left
      · intro w hSw; (try dsimp only at hSw); go_simp; (try with_reducible rfl)
      simp only [Act.put, List.setIfInBounds_toArray, List.set_cons_zero, List.set_cons_succ]
      refine takeR (i := 8) (v := ?_) rfl (by kernel_rfl) (by kernel_rfl) (by kernel_rfl) (some 22) rfl (Or.inl ⟨by rfl, ?_⟩) (fun _ _ _ h => h) (by assumption) ?_
      rotate_left
      · intro w hSw; (try dsimp only at hSw); go_simp; (try with_reducible rfl)
      simp only [Act.put, List.setIfInBounds_toArray, List.set_cons_zero, List.set_cons_succ]
      refine takeR (i := 10) (v := ?_) rfl (by kernel_rfl) (by kernel_rfl) (by kernel_rfl) (some 24) rfl (Or.inl ⟨by rfl, ?_⟩) (fun _ _ _ h => h) (by assumption) ?_
      rotate_left
      · intro w hSw; (try dsimp only at hSw); go_simp; (try with_reducible rfl)
      simp only [Act.put, List.setIfInBounds_toArray, List.set_cons_zero, List.set_cons_succ]
      refine takeR (i := 11) (v := ?_) rfl (by kernel_rfl) (by kernel_rfl) (by kernel_rfl) (some 25) rfl (Or.inl ⟨by rfl, ?_⟩) (fun _ _ _ h => h) (by assumption) ?_
      rotate_left
      · intro w hSw; (try dsimp only at hSw); go_simp; (try with_reducible rfl)
      simp only [Act.put, List.setIfInBounds_toArray, List.set_cons_zero, List.set_cons_succ]
      refine takeR (i := 12) (v := ?_) rfl (by kernel_rfl) (by kernel_rfl) (by kernel_rfl) (some 26) rfl (Or.inl ⟨by rfl, ?_⟩) (fun _ _ _ h => h) (by assumption) ?_
      rotate_left
      · intro w hSw; (try dsimp only at hSw); go_simp; (try with_reducible rfl)
      simp only [Act.put, List.setIfInBounds_toArray, List.set_cons_zero, List.set_cons_succ]
      refine takeR (i := 13) (v := ?_) rfl (by kernel_rfl) (by kernel_rfl) (by kernel_rfl) (some 27) rfl (Or.inl ⟨by rfl, ?_⟩) (fun _ _ _ h => h) (by assumption) ?_
      rotate_left
      · intro w hSw; (try dsimp only at hSw); go_simp; (try with_reducible rfl)
      simp only [Act.put, List.setIfInBounds_toArray, List.set_cons_zero, List.set_cons_succ]
      refine takeR (i := 15) (v := ?_) rfl (by kernel_rfl) (by kernel_rfl) (by kernel_rfl) (some 29) rfl (Or.inl ⟨by rfl, ?_⟩) (fun _ _ _ h => h) (by assumption) ?_
      rotate_left
      · intro w hSw; (try dsimp only at hSw); go_simp; (try with_reducible rfl)
      simp only [Act.put, List.setIfInBounds_toArray, List.set_cons_zero, List.set_cons_succ]
      refine takeR (i := 16) (v := ?_) rfl (by kernel_rfl) (by kernel_rfl) (by kernel_rfl) (some 30) rfl (Or.inl ⟨by rfl, ?_⟩) (fun _ _ _ h => h) (by assumption) ?_
      rotate_left
      · intro w hSw; (try dsimp only at hSw); go_simp; (try with_reducible rfl)
      simp only [Act.put, List.setIfInBounds_toArray, List.set_cons_zero, List.set_cons_succ]
      refine takeR (i := 17) (v := ?_) rfl (by kernel_rfl) (by kernel_rfl) (by kernel_rfl) (some 31) rfl (Or.inl ⟨by rfl, ?_⟩) (fun _ _ _ h => h) (by assumption) ?_
      rotate_left
      · intro w hSw; (try dsimp only at hSw); go_simp; (try with_reducible rfl)
      simp only [Act.put, List.setIfInBounds_toArray, List.set_cons_zero, List.set_cons_succ]
      refine takeR (i := 19) (v := ?_) rfl (by kernel_rfl) (by kernel_rfl) (by kernel_rfl) (some 33) rfl (Or.inl ⟨by rfl, ?_⟩) (fun _ _ _ h => h) (by assumption) ?_
      rotate_left
      · intro w hSw; (try dsimp only at hSw); go_simp; (try with_reducible rfl)
      simp only [Act.put, List.setIfInBounds_toArray, List.set_cons_zero, List.set_cons_succ]
      refine takeR (i := 20) (v := ?_) rfl (by kernel_rfl) (by kernel_rfl) (by kernel_rfl) (some 34) rfl (Or.inl ⟨by rfl, ?_⟩) (fun _ _ _ h => h) (by assumption) ?_
      rotate_left
      · intro w hSw; (try dsimp only at hSw); go_simp; (try with_reducible rfl)
      simp only [Act.put, List.setIfInBounds_toArray, List.set_cons_zero, List.set_cons_succ]
      refine takeR (i := 21) (v := ?_) rfl (by kernel_rfl) (by kernel_rfl) (by kernel_rfl) (some 35) rfl (Or.inl ⟨by rfl, ?_⟩) (fun _ _ _ h => h) (by assumption) ?_
      rotate_left
      · intro w hSw; (try dsimp only at hSw); go_simp; (try with_reducible rfl)
      simp only [Act.put, List.setIfInBounds_toArray, List.set_cons_zero, List.set_cons_succ]
      refine takeR (i := 22) (v := ?_) rfl (by kernel_rfl) (by kernel_rfl) (by kernel_rfl) (some 36) rfl (Or.inl ⟨by rfl, ?_⟩) (fun _ _ _ h => h) (by assumption) ?_
      rotate_left
      · intro w hSw; (try dsimp only at hSw); go_simp; (try with_reducible rfl)
      simp only [Act.put, List.setIfInBounds_toArray, List.set_cons_zero, List.set_cons_succ]
      refine wpAnyH_ready (rs := [4, 18]) (by kernel_rfl) (by simp) ?_
      refine AllReadyH.cons rfl (fun K hK => ?_) (AllReadyH.cons rfl (fun K hK => ?_) (AllReadyH.nil))
      · go_simp
        refine hK.out _ _ (hHeld) (fun hHeld => ?_)
        clear hK K
        try simp only [Act.put, List.setIfInBounds_toArray, List.set_cons_zero, List.set_cons_succ]
        refine wpAnyH_ready (rs := [9, 18]) (by kernel_rfl) (by simp) ?_
        refine AllReadyH.cons rfl (fun K hK => ?_) (AllReadyH.cons rfl (fun K hK => ?_) (AllReadyH.nil))
        · go_simp
          refine (q1.out _).mono ?_
          rintro e w1 ⟨rfl, b1⟩
          have k1 : Below wr.heap.size wr w1 := (Below.refl _ _).drew.trans b1
          obtain ⟨s0, s1, s2, s3, -⟩ := (HA.out.later k1).quad HQ.out
          refine hK.out _ _ (kN4 b1 hHeld) (fun hHeld => ?_)
          clear hK K
          try simp only [Act.put, List.setIfInBounds_toArray, List.set_cons_zero, List.set_cons_succ]
          refine wpAnyH_ready (rs := [14, 18]) (by kernel_rfl) (by simp) ?_
          refine AllReadyH.cons rfl (fun K hK => ?_) (AllReadyH.cons rfl (fun K hK => ?_) (AllReadyH.nil))
          · go_simp
            refine (q2.out _).mono ?_
            rintro e w2 ⟨rfl, b2⟩
            have k2 := k1.trans (b2.mono k1.size)
            obtain ⟨t0, t1, t2, t3, -⟩ := (HA.out.later k2).quad HQ.out
            refine hK.out _ _ (kN4 b2 hHeld) (fun hHeld => ?_)
            clear hK K
            try simp only [Act.put, List.setIfInBounds_toArray, List.set_cons_zero, List.set_cons_succ]
            refine wpAnyH_ready (rs := [18]) (by kernel_rfl) (by simp) ?_
            refine AllReadyH.cons rfl (fun K hK => ?_) (AllReadyH.nil)
            go_simp
            refine hK.out _ _ (hHeld) (fun hHeld => ?_)
            clear hK K
            try simp only [Act.put, List.setIfInBounds_toArray, List.set_cons_zero, List.set_cons_succ]
            refine wpAnyH_ready (rs := [23]) (by kernel_rfl) (by simp) ?_
            refine AllReadyH.cons rfl (fun K hK => ?_) (AllReadyH.nil)
            go_simp
            refine (q3.out _).mono ?_
            rintro e w3 ⟨rfl, b3⟩
            have k3 := k2.trans (b3.mono k2.size)
            obtain ⟨f0, f1, f2, f3, f4, f5, f6, f7⟩ := (HA.out.later k3).quad HQ.out
            refine hK.out _ _ (kN4 b3 hHeld) (fun hHeld => ?_)
            clear hK K
            try simp only [Act.put, List.setIfInBounds_toArray, List.set_cons_zero, List.set_cons_succ]
            refine takeR (i := 24) (v := ?_) rfl (by kernel_rfl) (by kernel_rfl) (by kernel_rfl) (some 38) rfl (Or.inl ⟨by rfl, ?_⟩) (fun _ _ _ h => h) (by assumption) ?_
            rotate_left
            · intro w hSw; (try dsimp only at hSw); go_simp; (try with_reducible rfl)
            simp only [Act.put, List.setIfInBounds_toArray, List.set_cons_zero, List.set_cons_succ]
            refine takeR (i := 25) (v := ?_) rfl (by kernel_rfl) (by kernel_rfl) (by kernel_rfl) (some 39) rfl (Or.inl ⟨by rfl, ?_⟩) (fun _ _ _ h => h) (by assumption) ?_
            rotate_left
            · intro w hSw; (try dsimp only at hSw); go_simp; (try with_reducible rfl)
            simp only [Act.put, List.setIfInBounds_toArray, List.set_cons_zero, List.set_cons_succ]
            refine wpAnyH_ready (rs := [26]) (by kernel_rfl) (by simp) ?_
            refine AllReadyH.cons rfl (fun K hK => ?_) (AllReadyH.nil)
            go_simp
            refine hK.out _ _ (kQ4 hHeld (by omega) (by dsimp only; omega) (by dsimp only; omega) (by dsimp only; omega) (by dsimp only; omega)) (fun hHeld => ?_)
            clear hK K
            try simp only [Act.put, List.setIfInBounds_toArray, List.set_cons_zero, List.set_cons_succ]
            refine wpAnyH_done (by kernel_rfl) ?_ _
            go_wp2_with fail
            go_roundw
            case rel => exact ⟨j + 1, by omega, by go_num, by rw [← HS.out]; exact hide_ ((HA.out.later k3).setq j r1 r2 r3 r4), hide_ (((((HH.out.later k3).far _ (by omega)).far _ (by omega)).far _ (by omega)).far _ (by omega)), hide_ (((((HZ.out.later k3).far _ (by omega)).far _ (by omega)).far _ (by omega)).far _ (by omega)), below_fillq (hb.trans (k3.mono hb.size)) (by omega) _ _ _ _ _ _ _ _⟩
            case measure => simp [intOf]; omega
          · go_simp
            refine hK.out _ _ (hHeld) (fun hHeld => ?_)
            clear hK K
            try simp only [Act.put, List.setIfInBounds_toArray, List.set_cons_zero, List.set_cons_succ]
            refine wpAnyH_ready (rs := [14]) (by kernel_rfl) (by simp) ?_
            refine AllReadyH.cons rfl (fun K hK => ?_) (AllReadyH.nil)
            go_simp
            refine (q2.out _).mono ?_
            rintro e w2 ⟨rfl, b2⟩
            have k2 := k1.trans (b2.mono k1.size)
            obtain ⟨t0, t1, t2, t3, -⟩ := (HA.out.later k2).quad HQ.out
            refine hK.out _ _ (kN4 b2 hHeld) (fun hHeld => ?_)
            clear hK K
            try simp only [Act.put, List.setIfInBounds_toArray, List.set_cons_zero, List.set_cons_succ]
            refine wpAnyH_ready (rs := [23]) (by kernel_rfl) (by simp) ?_
            refine AllReadyH.cons rfl (fun K hK => ?_) (AllReadyH.nil)
            go_simp
            refine (q3.out _).mono ?_
            rintro e w3 ⟨rfl, b3⟩
            have k3 := k2.trans (b3.mono k2.size)
            obtain ⟨f0, f1, f2, f3, f4, f5, f6, f7⟩ := (HA.out.later k3).quad HQ.out
            refine hK.out _ _ (kN4 b3 hHeld) (fun hHeld => ?_)
            clear hK K
            try simp only [Act.put, List.setIfInBounds_toArray, List.set_cons_zero, List.set_cons_succ]
            refine takeR (i := 24) (v := ?_) rfl (by kernel_rfl) (by kernel_rfl) (by kernel_rfl) (some 38) rfl (Or.inl ⟨by rfl, ?_⟩) (fun _ _ _ h => h) (by assumption) ?_
            rotate_left
            · intro w hSw; (try dsimp only at hSw); go_simp; (try with_reducible rfl)
            simp only [Act.put, List.setIfInBounds_toArray, List.set_cons_zero, List.set_cons_succ]
            refine takeR (i := 25) (v := ?_) rfl (by kernel_rfl) (by kernel_rfl) (by kernel_rfl) (some 39) rfl (Or.inl ⟨by rfl, ?_⟩) (fun _ _ _ h => h) (by assumption) ?_
            rotate_left
            · intro w hSw; (try dsimp only at hSw); go_simp; (try with_reducible rfl)
            simp only [Act.put, List.setIfInBounds_toArray, List.set_cons_zero, List.set_cons_succ]
            refine wpAnyH_ready (rs := [26]) (by kernel_rfl) (by simp) ?_
            refine AllReadyH.cons rfl (fun K hK => ?_) (AllReadyH.nil)
            go_simp
            refine hK.out _ _ (kQ4 hHeld (by omega) (by dsimp only; omega) (by dsimp only; omega) (by dsimp only; omega) (by dsimp only; omega)) (fun hHeld => ?_)
            clear hK K
            try simp only [Act.put, List.setIfInBounds_toArray, List.set_cons_zero, List.set_cons_succ]
            refine wpAnyH_done (by kernel_rfl) ?_ _
            go_wp2_with fail
            go_roundw
            case rel => exact ⟨j + 1, by omega, by go_num, by rw [← HS.out]; exact hide_ ((HA.out.later k3).setq j r1 r2 r3 r4), hide_ (((((HH.out.later k3).far _ (by omega)).far _ (by omega)).far _ (by omega)).far _ (by omega)), hide_ (((((HZ.out.later k3).far _ (by omega)).far _ (by omega)).far _ (by omega)).far _ (by omega)), below_fillq (hb.trans (k3.mono hb.size)) (by omega) _ _ _ _ _ _ _ _⟩
            case measure => simp [intOf]; omega
        · go_simp
          refine hK.out _ _ (hHeld) (fun hHeld => ?_)
          clear hK K
          try simp only [Act.put, List.setIfInBounds_toArray, List.set_cons_zero, List.set_cons_succ]
          refine wpAnyH_ready (rs := [9]) (by kernel_rfl) (by simp) ?_
          refine AllReadyH.cons rfl (fun K hK => ?_) (AllReadyH.nil)
          go_simp
          refine (q1.out _).mono ?_
          rintro e w1 ⟨rfl, b1⟩
          have k1 : Below wr.heap.size wr w1 := (Below.refl _ _).drew.trans b1
          obtain ⟨s0, s1, s2, s3, -⟩ := (HA.out.later k1).quad HQ.out
          refine hK.out _ _ (kN4 b1 hHeld) (fun hHeld => ?_)
          clear hK K
          try simp only [Act.put, List.setIfInBounds_toArray, List.set_cons_zero, List.set_cons_succ]
          refine wpAnyH_ready (rs := [14]) (by kernel_rfl) (by simp) ?_
          refine AllReadyH.cons rfl (fun K hK => ?_) (AllReadyH.nil)
          go_simp
          refine (q2.out _).mono ?_
          rintro e w2 ⟨rfl, b2⟩
          have k2 := k1.trans (b2.mono k1.size)
          obtain ⟨t0, t1, t2, t3, -⟩ := (HA.out.later k2).quad HQ.out
          refine hK.out _ _ (kN4 b2 hHeld) (fun hHeld => ?_)
          clear hK K
          try simp only [Act.put, List.setIfInBounds_toArray, List.set_cons_zero, List.set_cons_succ]
          refine wpAnyH_ready (rs := [23]) (by kernel_rfl) (by simp) ?_
          refine AllReadyH.cons rfl (fun K hK => ?_) (AllReadyH.nil)
          go_simp
          refine (q3.out _).mono ?_
          rintro e w3 ⟨rfl, b3⟩
          have k3 := k2.trans (b3.mono k2.size)
          obtain ⟨f0, f1, f2, f3, f4, f5, f6, f7⟩ := (HA.out.later k3).quad HQ.out
          refine hK.out _ _ (kN4 b3 hHeld) (fun hHeld => ?_)
          clear hK K
          try simp only [Act.put, List.setIfInBounds_toArray, List.set_cons_zero, List.set_cons_succ]
          refine takeR (i := 24) (v := ?_) rfl (by kernel_rfl) (by kernel_rfl) (by kernel_rfl) (some 38) rfl (Or.inl ⟨by rfl, ?_⟩) (fun _ _ _ h => h) (by assumption) ?_
          rotate_left
          · intro w hSw; (try dsimp only at hSw); go_simp; (try with_reducible rfl)
          simp only [Act.put, List.setIfInBounds_toArray, List.set_cons_zero, List.set_cons_succ]
          refine takeR (i := 25) (v := ?_) rfl (by kernel_rfl) (by kernel_rfl) (by kernel_rfl) (some 39) rfl (Or.inl ⟨by rfl, ?_⟩) (fun _ _ _ h => h) (by assumption) ?_
          rotate_left
          · intro w hSw; (try dsimp only at hSw); go_simp; (try with_reducible rfl)
          simp only [Act.put, List.setIfInBounds_toArray, List.set_cons_zero, List.set_cons_succ]
          refine wpAnyH_ready (rs := [26]) (by kernel_rfl) (by simp) ?_
          refine AllReadyH.cons rfl (fun K hK => ?_) (AllReadyH.nil)
          go_simp
          refine hK.out _ _ (kQ4 hHeld (by omega) (by dsimp only; omega) (by dsimp only; omega) (by dsimp only; omega) (by dsimp only; omega)) (fun hHeld => ?_)
          clear hK K
          try simp only [Act.put, List.setIfInBounds_toArray, List.set_cons_zero, List.set_cons_succ]
          refine wpAnyH_done (by kernel_rfl) ?_ _
          go_wp2_with fail
          go_roundw
          case rel => exact ⟨j + 1, by omega, by go_num, by rw [← HS.out]; exact hide_ ((HA.out.later k3).setq j r1 r2 r3 r4), hide_ (((((HH.out.later k3).far _ (by omega)).far _ (by omega)).far _ (by omega)).far _ (by omega)), hide_ (((((HZ.out.later k3).far _ (by omega)).far _ (by omega)).far _ (by omega)).far _ (by omega)), below_fillq (hb.trans (k3.mono hb.size)) (by omega) _ _ _ _ _ _ _ _⟩
          case measure => simp [intOf]; omega
      · go_simp
        refine hK.out _ _ (hHeld) (fun hHeld => ?_)
        clear hK K
        try simp only [Act.put, List.setIfInBounds_toArray, List.set_cons_zero, List.set_cons_succ]
        refine wpAnyH_ready (rs := [4]) (by kernel_rfl) (by simp) ?_
        refine AllReadyH.cons rfl (fun K hK => ?_) (AllReadyH.nil)
        go_simp
        refine hK.out _ _ (hHeld) (fun hHeld => ?_)
        clear hK K
        try simp only [Act.put, List.setIfInBounds_toArray, List.set_cons_zero, List.set_cons_succ]
        refine wpAnyH_ready (rs := [9]) (by kernel_rfl) (by simp) ?_
        refine AllReadyH.cons rfl (fun K hK => ?_) (AllReadyH.nil)
        go_simp
        refine (q1.out _).mono ?_
        rintro e w1 ⟨rfl, b1⟩
        have k1 : Below wr.heap.size wr w1 := (Below.refl _ _).drew.trans b1
        obtain ⟨s0, s1, s2, s3, -⟩ := (HA.out.later k1).quad HQ.out
        refine hK.out _ _ (kN4 b1 hHeld) (fun hHeld => ?_)
        clear hK K
        try simp only [Act.put, List.setIfInBounds_toArray, List.set_cons_zero, List.set_cons_succ]
        refine wpAnyH_ready (rs := [14]) (by kernel_rfl) (by simp) ?_
        refine AllReadyH.cons rfl (fun K hK => ?_) (AllReadyH.nil)
        go_simp
        refine (q2.out _).mono ?_
        rintro e w2 ⟨rfl, b2⟩
        have k2 := k1.trans (b2.mono k1.size)
        obtain ⟨t0, t1, t2, t3, -⟩ := (HA.out.later k2).quad HQ.out
        refine hK.out _ _ (kN4 b2 hHeld) (fun hHeld => ?_)
        clear hK K
        try simp only [Act.put, List.setIfInBounds_toArray, List.set_cons_zero, List.set_cons_succ]
        refine wpAnyH_ready (rs := [23]) (by kernel_rfl) (by simp) ?_
        refine AllReadyH.cons rfl (fun K hK => ?_) (AllReadyH.nil)
        go_simp
        refine (q3.out _).mono ?_
        rintro e w3 ⟨rfl, b3⟩
        have k3 := k2.trans (b3.mono k2.size)
        obtain ⟨f0, f1, f2, f3, f4, f5, f6, f7⟩ := (HA.out.later k3).quad HQ.out
        refine hK.out _ _ (kN4 b3 hHeld) (fun hHeld => ?_)
        clear hK K
        try simp only [Act.put, List.setIfInBounds_toArray, List.set_cons_zero, List.set_cons_succ]
        refine takeR (i := 24) (v := ?_) rfl (by kernel_rfl) (by kernel_rfl) (by kernel_rfl) (some 38) rfl (Or.inl ⟨by rfl, ?_⟩) (fun _ _ _ h => h) (by assumption) ?_
        rotate_left
        · intro w hSw; (try dsimp only at hSw); go_simp; (try with_reducible rfl)
        simp only [Act.put, List.setIfInBounds_toArray, List.set_cons_zero, List.set_cons_succ]
        refine takeR (i := 25) (v := ?_) rfl (by kernel_rfl) (by kernel_rfl) (by kernel_rfl) (some 39) rfl (Or.inl ⟨by rfl, ?_⟩) (fun _ _ _ h => h) (by assumption) ?_
        rotate_left
        · intro w hSw; (try dsimp only at hSw); go_simp; (try with_reducible rfl)
        simp only [Act.put, List.setIfInBounds_toArray, List.set_cons_zero, List.set_cons_succ]
        refine wpAnyH_ready (rs := [26]) (by kernel_rfl) (by simp) ?_
        refine AllReadyH.cons rfl (fun K hK => ?_) (AllReadyH.nil)
        go_simp
        refine hK.out _ _ (kQ4 hHeld (by omega) (by dsimp only; omega) (by dsimp only; omega) (by dsimp only; omega) (by dsimp only; omega)) (fun hHeld => ?_)
        clear hK K
        try simp only [Act.put, List.setIfInBounds_toArray, List.set_cons_zero, List.set_cons_succ]
        refine wpAnyH_done (by kernel_rfl) ?_ _
        go_wp2_with fail
        go_roundw
        case rel => exact ⟨j + 1, by omega, by go_num, by rw [← HS.out]; exact hide_ ((HA.out.later k3).setq j r1 r2 r3 r4), hide_ (((((HH.out.later k3).far _ (by omega)).far _ (by omega)).far _ (by omega)).far _ (by omega)), hide_ (((((HZ.out.later k3).far _ (by omega)).far _ (by omega)).far _ (by omega)).far _ (by omega)), below_fillq (hb.trans (k3.mono hb.size)) (by omega) _ _ _ _ _ _ _ _⟩
        case measure => simp [intOf]; omega
    · have hlt' : ¬ (j : Int) < 24 := by omega
      have e : j = 24 := by omega
      subst e
      go_wp2_with (first | (refine wpList_loadA Try.underlying28 rfl (.tmp 2) rfl w.heap.size (by simp [Act.eval, Act.put]) (tdc (updK L t 24)) (szR HLN.out) HA.out ?_) | (refine wpList_storeA rfl (.tmp 4) (.tmp 40) rfl (w.heap.size + 1 + 1) (by simp [Act.eval, Act.put]) (tdc z24q) (tdc (updK L t 24)) (by rw [tdc_length, tdc_length, HLN.out, z24q_len]) (szR HLN.out) (tdc_one _) (by simp [Act.eval, Act.put]) HZ.out ?_))
      exact bodyPost_ret (results_A Try.underlying28 Try.results13 _ _ (w.heap.size + 1 + 1) (tdc (updK L t 24)) (szR HLN.out) rfl HZ.out.row) rfl ⟨rfl, hb.trans (below_row _ _ _ _ (by omega))⟩


end Go.Proofs.Ytlincickgleddaa
