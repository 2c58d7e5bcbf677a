import Derived.Test.YtabeahglfhhfmaaQf
import Derived.Test.YtabeahglfhhfmaaHa
import Derived.Test.YtabeahglfhhfmaaHf
import Derived.Test.YtabeahglfhhfmaaW
namespace Go.Proofs.Ytabeahglfhhfmaa
open Go Go.RowKit
set_option linter.unusedVariables false
set_option linter.unusedSimpArgs false

theorem allB_and (p q : Nat → Bool) : ∀ n, allB (fun k => p k && q k) n = (allB p n && allB q n)
  | 0 => rfl
  | n + 1 => by rw [allB_succ, allB_succ, allB_succ, allB_and p q n]; cases allB p n <;> cases allB q n <;> cases p n <;> cases q n <;> rfl
theorem allB_congr {p q : Nat → Bool} {n : Nat} (h : ∀ k, k < n → p k = q k) : allB p n = allB q n := by
  induction n with
  | zero => rfl
  | succ n ih => rw [allB_succ, allB_succ, ih (fun k hk => h k (by omega)), h n (by omega)]
theorem mapB_at {t : Nat → Q4} {p : Nat → Bool} (h : allB p 24 = true) (k : Nat) (hk : k < 24) : cq (mapB t p) k = t k := by
  rw [mapB_true h, mapK_all]
  exact cq_at (by simp [hk])
theorem meetC_rel (l m : List Q4) (v : List (Nat × Nat)) : (hasC l v && hasC m v) = (okC l m && hasC (meetC l m) v) := by
  unfold hasC okC
  rw [← allB_and]
  have e : ∀ k, (thz4 (cq l k) (wq v k) && thz4 (cq m k) (wq v k)) = (mok4 (cq l k) (cq m k) && thz4 (meet4 (cq l k) (cq m k)) (wq v k)) := fun k => meet_rel _ _ _ _ _ _ _ _ _ _
  rw [allB_congr (fun k _ => e k), allB_and]
  cases h : allB (fun k => mok4 (cq l k) (cq m k)) 24
  · rfl
  · rw [Bool.true_and, Bool.true_and]
    refine allB_congr (fun k hk => ?_)
    unfold meetC
    rw [mapB_at h k hk]
theorem z24q_isC : isC z24q := isC_of _ (by decide +kernel)
theorem isC_map (t : Nat → Q4) (h : ∀ k, k < 24 → (t k).1 < 18446744073709551616 ∧ (t k).2.1 < 18446744073709551616 ∧ (t k).2.2.1 < 18446744073709551616 ∧ (t k).2.2.2 < 18446744073709551616) : isC ((List.range 24).map t) := by
  refine ⟨by simp, fun p hp => ?_⟩
  obtain ⟨k, hk, rfl⟩ := List.mem_map.1 hp
  exact h k (List.mem_range.1 hk)
theorem cq_lt {l : List Q4} (hl : isC l) {k : Nat} (hk : k < 24) : (cq l k).1 < 18446744073709551616 ∧ (cq l k).2.1 < 18446744073709551616 ∧ (cq l k).2.2.1 < 18446744073709551616 ∧ (cq l k).2.2.2 < 18446744073709551616 := by
  obtain ⟨a, b, c, d, e, h1, h2, h3, h4⟩ := hl.get hk
  rw [cq_at e]; exact ⟨h1, h2, h3, h4⟩
theorem meetC_isC (l m : List Q4) (hl : isC l) (hm : isC m) : isC (meetC l m) := by
  unfold meetC mapB
  split
  · refine isC_map _ (fun k hk => ?_)
    obtain ⟨a1, a2, a3, a4⟩ := cq_lt hl hk
    obtain ⟨b1, b2, b3, b4⟩ := cq_lt hm hk
    exact ⟨mz_lt _ _ (or_lt _ _ (and_lt _ _ a1) (and_lt _ _ b1)), mz_lt _ _ (or_lt _ _ (and_lt _ _ a2) (and_lt _ _ b2)), mz_lt _ _ (or_lt _ _ a3 b3), mz_lt _ _ (or_lt _ _ a4 b4)⟩
  · exact z24q_isC

set_option maxRecDepth 100000 in
set_option maxHeartbeats 4000000 in
theorem cubeMeet_walk (l m : List Q4) (v : List (Nat × Nat)) (hl : isC l) (hm : isC m) (hv' : isH v) (w : World) :
    Calls Try.prog 8 #[cv l, cv m, hv v] w fun e w' => e = .returned (.bool true) ∧ Below w.heap.size w w' := by
  have q1 := hide_ (fun w => cmeet_any l m hl hm w)
  have q2 := hide_ (fun w => chas_any l v hl hv' w)
  have q3 := hide_ (fun w => chas_any m v hm hv' w)
  have q4 := hide_ (fun w => chas_any (meetC l m) v (meetC_isC l m hl hm) hv' w)
  have rel := meetC_rel l m v
  have hlM := hide_ (meetC_isC l m hl hm).1
  have hll := hide_ hl.1
  have hlm := hide_ hm.1
  have hlv := hide_ hv'.1
  generalize hasC (meetC l m) v = zM at *
  generalize meetC l m = M at *
  generalize hasC l v = zA at *
  generalize hasC m v = zB at *
  generalize okC l m = ok at *
  clear hl hm hv'
  unfold cv at *
  unfold hv at *
  have A0 := hide_ (((AB.at0 w 44 (tdc l)).alloc (.cells (tdc m).toArray 44)).alloc (.cells (wdc v).toArray 46))
  have C0 := hide_ ((AB.at1 w (.cells (tdc l).toArray 44) 44 (tdc m)).alloc (.cells (wdc v).toArray 46))
  have V0 := hide_ (AB.at2 w (.cells (tdc l).toArray 44) (.cells (tdc m).toArray 44) 46 (wdc v))
  have HB := hide_ (below3 w (.cells (tdc l).toArray 44) (.cells (tdc m).toArray 44) (.cells (wdc v).toArray 46))
  cases ok <;> cases zA <;> cases zB <;> cases zM <;> first | (exfalso; revert rel; decide) | skip
  all_goals
    clear rel
    go_enter Try.func8, Try.ntmps8
    go_wp2_with (first | (refine wpList_loadA Try.underlying44 rfl (.tmp 3) rfl w.heap.size (by simp [Act.eval, Act.put]) (tdc l) (szC hll.out) A0.out ?_) | (refine wpList_loadA Try.underlying44 rfl (.tmp 4) rfl (w.heap.size + 1) (by simp [Act.eval, Act.put]) (tdc m) (szC hlm.out) C0.out ?_))
    refine (q1.out _).mono ?_
    rintro e w1 ⟨rfl, b1⟩
    have hne : w.heap.size + 1 + 1 < w1.heap.size := Nat.lt_of_lt_of_le V0.out.lt b1.size
    have HM0 : Hid (AB (w1.alloc (.cells Try.zeroCells44 44)) w1.heap.size 44 (tdc z24q)) := hide_ (by rw [zc44]; exact AB.at0 w1 44 (tdc z24q))
    have HALL : Hid (∀ w', Below ((w1.alloc (.cells Try.zeroCells44 44)).setRow w1.heap.size (tdc M).toArray).heap.size ((w1.alloc (.cells Try.zeroCells44 44)).setRow w1.heap.size (tdc M).toArray) w' → AB w' w.heap.size 44 (tdc l) ∧ AB w' (w.heap.size + 1) 44 (tdc m) ∧ AB w' (w.heap.size + 1 + 1) 46 (wdc v) ∧ AB w' w1.heap.size 44 (tdc M)) := hide_ (fun w' k =>
      ⟨((((A0.out.later b1).alloc _).row_far _ (by omega)).later k), ((((C0.out.later b1).alloc _).row_far _ (by omega)).later k), ((((V0.out.later b1).alloc _).row_far _ (by omega)).later k), (HM0.out.row.later k)⟩)
    have B0 := HB.out.trans (b1.mono HB.out.size)
    have HBB := hide_ ((B0.alloc B0.size (.cells Try.zeroCells44 44)).trans (below_row _ w1.heap.size _ (tdc M).toArray (by omega)))
    clear A0 C0 V0 HB B0 b1
    go_wp2_with (first | (refine wpList_storeA rfl (.tmp 7) (.tmp 14) rfl w1.heap.size (by simp [Act.eval, Act.put]) (tdc z24q) (tdc M) (by rw [tdc_length, tdc_length, hlM.out, z24q_len]) (szC hlM.out) (tdc_one _) (by simp [Act.eval, Act.put]) HM0.out ?_; generalize ((w1.alloc (.cells Try.zeroCells44 44)).setRow w1.heap.size (tdc M).toArray) = W at *; generalize w1.heap.size = n at *; clear HM0; have kk : Below W.heap.size W W := Below.refl _ _) | (refine wpList_loadA Try.underlying44 rfl (.tmp 3) rfl w.heap.size (by simp [Act.eval, Act.put]) (tdc l) (szC hll.out) (HALL.out _ kk).1 ?_) | (refine wpList_loadA Try.underlying44 rfl (.tmp 4) rfl (w.heap.size + 1) (by simp [Act.eval, Act.put]) (tdc m) (szC hlm.out) (HALL.out _ kk).2.1 ?_) | (refine wpList_loadA Try.underlying46 rfl (.tmp 5) rfl (w.heap.size + 1 + 1) (by simp [Act.eval, Act.put]) (wdc v) (szW hlv.out) (HALL.out _ kk).2.2.1 ?_) | (refine wpList_loadA Try.underlying44 rfl (.tmp 7) rfl n (by simp [Act.eval, Act.put]) (tdc M) (szC hlM.out) (HALL.out _ kk).2.2.2 ?_) | (go_at_call_of 28 (tdc l); refine (q2.out _).mono ?_; rintro e w9 ⟨rfl, hb9⟩; have kk := kk.trans (hb9.mono kk.size)) | (go_at_call_of 28 (tdc m); refine (q3.out _).mono ?_; rintro e w9 ⟨rfl, hb9⟩; have kk := kk.trans (hb9.mono kk.size)) | (go_at_call_of 28 (tdc M); refine (q4.out _).mono ?_; rintro e w9 ⟨rfl, hb9⟩; have kk := kk.trans (hb9.mono kk.size)) | (go_at_call 42; refine (awake6_any _).mono ?_; rintro e w9 ⟨rfl, hb9⟩; have kk := kk.trans (hb9.mono kk.size)))
    go_ret
    exact ⟨rfl, HBB.out.trans (kk.mono HBB.out.size)⟩


end Go.Proofs.Ytabeahglfhhfmaa
