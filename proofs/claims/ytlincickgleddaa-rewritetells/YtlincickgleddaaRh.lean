import Derived.Test.YtlincickgleddaaRx
import Derived.Deep.RegionHeld3
import Derived.Deep.RegionWith
import Derived.Deep.MidRow
import Derived.Deep.Cut
namespace Go.Proofs.Ytlincickgleddaa
open Go Go.RowKit
set_option linter.unusedVariables false
set_option linter.unusedSimpArgs false

set_option maxRecDepth 100000 in
set_option maxHeartbeats 4000000 in
theorem rrwafter_any (l m : List Q4) (hl : isC l) (hm : isC m) (w : World) :
    Calls Try.prog 15 #[cv l, cv m] w fun e w' => e = .returned (cv (thenC m l)) ∧ Below w.heap.size w w' := by
  have HL := hide_ hl
  have HM := hide_ hm
  obtain ⟨t, ht⟩ : ∃ t : Nat → Q4, (fun k => over4 (cq m k) (cq l k)) = t := ⟨_, rfl⟩
  have HT : Hid (∀ k, t k = rover4 (clean4 (cq m k)) (clean4 (cq l k))) := hide_ (fun k => by
    rw [← ht]
    obtain ⟨-, -, h1, h2⟩ := hl.cq k
    obtain ⟨-, -, h3, h4⟩ := hm.cq k
    exact (rover4_eq _ _ h3 h4 h1 h2).symm)
  have hap : thenC m l = updK z24q t 24 := by rw [updK_all _ t z24q_len, ← ht]; rfl
  rw [hap]
  have HLN := hide_ (show (updK z24q t 24).length = 24 by rw [updK_len]; exact z24q_len)
  clear hap ht hl hm
  have A0 := hide_ ((((AB.at0 w 28 (tdc l)).alloc (.cells (tdc m).toArray 29)).alloc (.cells (tdc z24q).toArray 29)).alloc (.cells (tdc z24q).toArray 29))
  have H0 := hide_ (((AB.at1 w (.cells (tdc l).toArray 28) 29 (tdc m)).alloc (.cells (tdc z24q).toArray 29)).alloc (.cells (tdc z24q).toArray 29))
  have Z0 := hide_ ((AB.at2 w (.cells (tdc l).toArray 28) (.cells (tdc m).toArray 29) 29 (tdc z24q)).alloc (.cells (tdc z24q).toArray 29))
  have Y0 := hide_ (AB.at3 w (.cells (tdc l).toArray 28) (.cells (tdc m).toArray 29) (.cells (tdc z24q).toArray 29) 29 (tdc z24q))
  have B0 := hide_ (below4 w (.cells (tdc l).toArray 28) (.cells (tdc m).toArray 29) (.cells (tdc z24q).toArray 29) (.cells (tdc z24q).toArray 29))
  unfold cv at *
  obtain ⟨hz0, -⟩ := zero_of_info zC'
  go_enter Try.func15, Try.ntmps15
  go_wp2_with (refine wpList_storeA rfl (.tmp 5) (.tmp 8) rfl (w.heap.size + 1 + 1 + 1) (by simp [Act.eval, Act.put]) (tdc z24q) (tdc z24q) rfl (szC z24q_len) (tdc_one _) (by simp [Act.eval, Act.put]) Y0.out ?_)
  have A1 := hide_ (A0.out.row_far (f := (w.heap.size + 1 + 1 + 1)) (tdc z24q).toArray (by omega))
  have H1 := hide_ (H0.out.row_far (f := (w.heap.size + 1 + 1 + 1)) (tdc z24q).toArray (by omega))
  have Z1 := hide_ (Z0.out.row_far (f := (w.heap.size + 1 + 1 + 1)) (tdc z24q).toArray (by omega))
  have Y1 := hide_ (Y0.out.row (cs' := tdc z24q))
  have B1 := B0.out.trans (below_row _ (w.heap.size + 1 + 1 + 1) _ (tdc z24q).toArray (by omega))
  clear A0 H0 Z0 Y0 B0
  try simp only [Act.put]
  generalize ((((w.alloc (.cells (tdc l).toArray 28)).alloc (.cells (tdc m).toArray 29)).alloc (.cells (tdc z24q).toArray 29)).alloc (.cells (tdc z24q).toArray 29)).setRow (w.heap.size + 1 + 1 + 1) (tdc z24q).toArray = W at *
  go_loopw [6, 7] (fun i _ wr => ∃ j : Nat, j ≤ 24 ∧ i = .int .i64 (j : Int) ∧ Hid (AB wr w.heap.size 28 (tdc l)) ∧ Hid (AB wr (w.heap.size + 1) 29 (tdc m)) ∧ Hid (AB wr (w.heap.size + 1 + 1) 29 (tdc z24q)) ∧ Hid (AB wr (w.heap.size + 1 + 1 + 1) 29 (tdc (updK z24q t j))) ∧ Below w.heap.size w wr) (fun i _ _ => 24 - (intOf i).toNat)
  case atStart => exact ⟨0, by omega, rfl, A1, H1, Z1, Y1, B1⟩
  case round =>
    clear A1 H1 Z1 Y1 B1
    obtain ⟨j, hj, rfl, HA, HH, HZ, HY, hb⟩ := hrel
    by_cases hlt : j < 24
    · have hlt' : (j : Int) < 24 := by omega
      have hj0 : (0 : Int) ≤ (j : Int) := by omega
      obtain ⟨a2, b2, c2, d2, e1, h1, h2, h3, h4⟩ := HL.out.get hlt
      obtain ⟨a, b, c, d, e2, i1, i2, i3, i4⟩ := HM.out.get hlt
      have HQ : Hid ((updK z24q t j)[j]? = some (0, 0, 0, 0)) := hide_ (by rw [updK_at _ t j j (Nat.le_refl _)]; unfold z24q; rw [List.getElem?_replicate, if_pos hlt])
      have HS : Hid ((updK z24q t j).set j (andn (a &&& c) c2 ||| a2 &&& c2, andn (b &&& d) d2 ||| b2 &&& d2, c ||| c2, d ||| d2) = updK z24q t (j + 1)) := hide_ (by rw [updK, HT.out j, cq_at e1, cq_at e2]; rfl)
      have q0 := hide_ (fun w => rtclean_any a b c d w i1 i2 i3 i4)
      have q1 := hide_ (fun w => rless_any (a &&& c) (b &&& d) c2 d2 w (and_lt _ _ i1) (and_lt _ _ i2) h3 h4)
      have q2 := hide_ (fun w => rand_any a2 b2 c2 d2 w h1 h2 h3 h4)
      have q3 := hide_ (fun w => ror_any (andn (a &&& c) c2) (andn (b &&& d) d2) (a2 &&& c2) (b2 &&& d2) w (tandn_lt _ _ (and_lt _ _ i1)) (tandn_lt _ _ (and_lt _ _ i2)) (and_lt _ _ h1) (and_lt _ _ h2))
      have q4 := hide_ (fun w => ror_any c d c2 d2 w i3 i4 h3 h4)
      have E1 := hide_ e1
      obtain ⟨o4, o5, o6, o7, -⟩ := HH.out.quad e2
      generalize andn (a &&& c) c2 ||| a2 &&& c2 = r1 at *
      generalize andn (b &&& d) d2 ||| b2 &&& d2 = r2 at *
      generalize c ||| c2 = r3 at *
      generalize d ||| d2 = r4 at *
      generalize andn (a &&& c) c2 = p1 at *
      generalize andn (b &&& d) d2 = p2 at *
      generalize a &&& c = s1 at *
      generalize b &&& d = s2 at *
      generalize a2 &&& c2 = v1 at *
      generalize b2 &&& d2 = v2 at *
      unfold td at q0
      unfold wd at q1 q2 q3 q4
      clear e1 h1 h2 h3 h4 e2 i1 i2 i3 i4
      go_upto_region 6 with (go_at_call 29; refine (q0.out _).mono ?_; rintro e w1 ⟨rfl, b1⟩)
      have TB := AB.at0 w1 26 [.int .u64 (s1 : Int), .int .u64 (s2 : Int), .int .u64 (c : Int), .int .u64 (d : Int)]
      have bT : Below wr.heap.size wr (w1.alloc (.cells #[.int .u64 (s1 : Int), .int .u64 (s2 : Int), .int .u64 (c : Int), .int .u64 (d : Int)] 26)) := b1.trans ((below1 w1 _).mono b1.size)
      have gs : wr.heap.size ≤ w1.heap.size := b1.size
      have hn3 := HY.out.lt
      have HA1 := hide_ (HA.out.later bT)
      have HH1 := hide_ (HH.out.later bT)
      have HZ1 := hide_ (HZ.out.later bT)
      have HY1 := hide_ (HY.out.later bT)
      have hb1 := hb.trans (bT.mono hb.size)
      obtain ⟨u0, u1, u2, u3, -⟩ := TB.four
      obtain ⟨o0, o1, o2, o3, -⟩ := HA1.out.quad E1.out
      clear HA HH HZ HY hb o4 o5 o6 o7 b1 bT TB
      generalize w1.alloc (.cells #[.int .u64 (s1 : Int), .int .u64 (s2 : Int), .int .u64 (c : Int), .int .u64 (d : Int)] 26) = V at *
      generalize w1.heap.size = G at *
      go_region_held3 (fun w' => w'.cell? ⟨G, 0, none⟩ = some (.int .u64 (s1 : Int)) ∧ w'.cell? ⟨G, 1, none⟩ = some (.int .u64 (s2 : Int)) ∧ w'.cell? ⟨G, 2, none⟩ = some (.int .u64 (c : Int)) ∧ w'.cell? ⟨G, 3, none⟩ = some (.int .u64 (d : Int)) ∧ w'.cell? ⟨w.heap.size, j * 4, none⟩ = some (.int .u64 (a2 : Int)) ∧ w'.cell? ⟨w.heap.size, j * 4 + 1, none⟩ = some (.int .u64 (b2 : Int)) ∧ w'.cell? ⟨w.heap.size, j * 4 + 2, none⟩ = some (.int .u64 (c2 : Int)) ∧ w'.cell? ⟨w.heap.size, j * 4 + 3, none⟩ = some (.int .u64 (d2 : Int)) ∧ Below w.heap.size w w')
        (first | (with_reducible exact kN8 b4 (by assumption)) | (with_reducible exact kN8 b3 (by assumption)) | (with_reducible exact kN8 b2 (by assumption)) | (with_reducible exact kN8 b1 (by assumption)) | (with_reducible exact kQ8 (by assumption) (by omega) (by dsimp only; omega) (by dsimp only; omega) (by dsimp only; omega) (by dsimp only; omega) (by dsimp only; omega) (by dsimp only; omega) (by dsimp only; omega) (by dsimp only; omega)) | (exact ⟨u0, u1, u2, u3, o0, o1, o2, o3, hb1.drew⟩) | (exact ⟨u0, u1, u2, u3, o0, o1, o2, o3, hb1⟩))
        (first | (go_at_call 30; refine (q1.out _).mono ?_; rintro e w1 ⟨rfl, b1⟩; have k1 : Below V.heap.size V w1 := (Below.refl _ _).drew.trans b1) | (go_at_call 35; refine (q2.out _).mono ?_; rintro e w2 ⟨rfl, b2⟩; have k2 := k1.trans (b2.mono k1.size)) | (go_at_call_of 34 (Value.int IntKind.u64 (p1 : Int)); refine (q3.out _).mono ?_; rintro e w3 ⟨rfl, b3⟩; have k3 := k2.trans (b3.mono k2.size)) | (go_at_call_of 34 (Value.int IntKind.u64 (c : Int)); refine (q4.out _).mono ?_; rintro e w4 ⟨rfl, b4⟩; have k4 := k3.trans (b4.mono k3.size); obtain ⟨f0, f1, f2, f3, f4, f5, f6, f7⟩ := (HY1.out.later k4).quad HQ.out))
      all_goals
        go_wp2_with fail
        go_roundw
        case rel => exact ⟨j + 1, by omega, by go_num, hide_ (((((HA1.out.later k4).far _ (by omega)).far _ (by omega)).far _ (by omega)).far _ (by omega)), hide_ (((((HH1.out.later k4).far _ (by omega)).far _ (by omega)).far _ (by omega)).far _ (by omega)), hide_ (((((HZ1.out.later k4).far _ (by omega)).far _ (by omega)).far _ (by omega)).far _ (by omega)), by rw [← HS.out]; exact hide_ ((HY1.out.later k4).setq j r1 r2 r3 r4), below_fillq (hb1.trans (k4.mono hb1.size)) (by omega) _ _ _ _ _ _ _ _⟩
        case measure => simp [intOf]; omega
    · have hlt' : ¬ (j : Int) < 24 := by omega
      have e : j = 24 := by omega
      subst e
      go_wp2_with (first | (refine wpList_loadA Try.underlying29 rfl (.tmp 5) rfl (w.heap.size + 1 + 1 + 1) (by simp [Act.eval, Act.put]) (tdc (updK z24q t 24)) (szC HLN.out) HY.out ?_) | (refine wpList_storeA rfl (.tmp 4) (.tmp 44) rfl (w.heap.size + 1 + 1) (by simp [Act.eval, Act.put]) (tdc z24q) (tdc (updK z24q t 24)) (by rw [tdc_length, tdc_length, HLN.out, z24q_len]) (szC HLN.out) (tdc_one _) (by simp [Act.eval, Act.put]) HZ.out ?_))
      exact bodyPost_ret (results_A Try.underlying29 Try.results15 _ _ (w.heap.size + 1 + 1) (tdc (updK z24q t 24)) (szC HLN.out) rfl HZ.out.row) rfl ⟨rfl, hb.trans (below_row _ _ _ _ (by omega))⟩


end Go.Proofs.Ytlincickgleddaa
