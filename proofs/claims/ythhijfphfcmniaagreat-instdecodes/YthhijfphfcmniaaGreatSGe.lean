import Derived.Test.YthhijfphfcmniaaGreatNLCe
import Derived.Test.YthhijfphfcmniaaGreatJLe
import Derived.Deep.RegionHeld3
import Derived.Deep.RegionWith
import Derived.Deep.MidRow
import Derived.Deep.Cut
set_option maxRecDepth 100000
set_option maxHeartbeats 8000000
set_option linter.unusedVariables false
set_option linter.unusedSimpArgs false
namespace Go.Proofs.YthhijfphfcmniaaGreat
open Go Go.RowKit
theorem rsame14_eq (k1 t1 : Int) (a1 b1 c1 d1 : Nat) (su1 su2 : Option Addr) (cu1 cu2 : Nat) (M1 : List A11) (w : World) (hL : ActAt w (.slice su1 M1.length cu1) M1) (hK : ActAt w (.slice su2 M1.length cu2) M1) :
    Calls Tryz.prog 42 #[.agg #[.int .i64 k1, .int .i64 t1, .int .u64 (a1 : Int), .int .u64 (b1 : Int), .int .u64 (c1 : Int), .int .u64 (d1 : Int), .slice su1 M1.length cu1], .agg #[.int .i64 k1, .int .i64 t1, .int .u64 (a1 : Int), .int .u64 (b1 : Int), .int .u64 (c1 : Int), .int .u64 (d1 : Int), .slice su2 M1.length cu2]] w fun e w' => e = .returned (.bool true) ∧ Below w.heap.size w w' := by
  have q := fun W (hW : Below w.heap.size w W) => rlsame_any _ _ M1 M1 W (hL.later hW) (hK.later hW)
  rw [sameL_refl] at q
  have q := h_ q
  have B0 := h_ (below2 w (.cells #[.int .i64 k1, .int .i64 t1, .int .u64 (a1 : Int), .int .u64 (b1 : Int), .int .u64 (c1 : Int), .int .u64 (d1 : Int), .slice su1 M1.length cu1] 34) (.cells #[.int .i64 k1, .int .i64 t1, .int .u64 (a1 : Int), .int .u64 (b1 : Int), .int .u64 (c1 : Int), .int .u64 (d1 : Int), .slice su2 M1.length cu2] 34))
  obtain ⟨o0, o1, o2, o3, o4, o5, o6, -⟩ := ((AB.at0 w 34 [.int .i64 k1, .int .i64 t1, .int .u64 (a1 : Int), .int .u64 (b1 : Int), .int .u64 (c1 : Int), .int .u64 (d1 : Int), .slice su1 M1.length cu1]).alloc (.cells #[.int .i64 k1, .int .i64 t1, .int .u64 (a1 : Int), .int .u64 (b1 : Int), .int .u64 (c1 : Int), .int .u64 (d1 : Int), .slice su2 M1.length cu2] 34)).k7
  obtain ⟨p0, p1, p2, p3, p4, p5, p6, -⟩ := (AB.at1 w (.cells #[.int .i64 k1, .int .i64 t1, .int .u64 (a1 : Int), .int .u64 (b1 : Int), .int .u64 (c1 : Int), .int .u64 (d1 : Int), .slice su1 M1.length cu1] 34) 34 [.int .i64 k1, .int .i64 t1, .int .u64 (a1 : Int), .int .u64 (b1 : Int), .int .u64 (c1 : Int), .int .u64 (d1 : Int), .slice su2 M1.length cu2]).k7
  clear hL hK
  go_enter Tryz.func42, Tryz.ntmps42
  go_wp2_with (go_at_call 76; refine (q.out _ B0.out).mono ?_; rintro e w4 ⟨rfl, b4⟩; have B4 := h_ (B0.out.trans (b4.mono B0.out.size)); clear b4)
  go_ret
  exact ⟨by first | rfl | simp, B4.out⟩
theorem rlsame14_eq (v u : Value) (L : List I6) (w : World) (hL : InstAt w v L) (hK : InstAt w u L) :
    Calls Tryz.prog 14 #[v, u] w fun e w' => e = .returned (.bool true) ∧ Below w.heap.size w w' := by
  obtain ⟨s, cap, rfl, h1, h2, h3, h4⟩ := hL
  obtain ⟨s2, cap2, rfl, k1, k2, k3, k4⟩ := hK
  have HL := h_ h4
  have HK := h_ k4
  have hm : L.length ≤ 9223372036854775807 := by unfold maxLen at h2; omega
  clear h1 h2 h3 h4 k1 k2 k3 k4
  have g0 : ((L.length : Int) != (L.length : Int)) = false := by simp
  go_enter Tryz.func14, Tryz.ntmps14
  go_wp2
  go_loopw [5] (fun i wr => ∃ k : Nat, k ≤ L.length ∧ i = .int .i64 k ∧ Hid (Below w.heap.size w wr)) (fun i _ => L.length - (intOf i).toNat)
  case atStart => exact ⟨0, Nat.zero_le _, rfl, h_ (Below.refl _ _)⟩
  case round =>
    obtain ⟨j, hk, rfl, HB9⟩ := hrel
    by_cases hlt : j < L.length
    · have hj0 : (0 : Int) ≤ (j : Int) := by omega
      have hb := HB9.out
      obtain ⟨⟨k1, t1, ⟨a1, b1⟩, ⟨c1, d1⟩, M1⟩, hz1⟩ : ∃ z, L[j]? = some z := ⟨_, List.getElem?_eq_getElem hlt⟩
      obtain ⟨bq1, off1, u1, rfl, X0, X1, X2, X3, X4, X5, X6, M1A⟩ := HL.out j _ hz1
      have X0 := cell_later hb X0
      have X1 := cell_later hb X1
      have X2 := cell_later hb X2
      have X3 := cell_later hb X3
      have X4 := cell_later hb X4
      have X5 := cell_later hb X5
      have X6 := cell_later hb X6
      obtain ⟨su1, cu1, eu1, -⟩ := id M1A
      subst eu1
      obtain ⟨bq2, off2, u2, rfl, Y0, Y1, Y2, Y3, Y4, Y5, Y6, M2A⟩ := HK.out j _ hz1
      have Y0 := cell_later hb Y0
      have Y1 := cell_later hb Y1
      have Y2 := cell_later hb Y2
      have Y3 := cell_later hb Y3
      have Y4 := cell_later hb Y4
      have Y5 := cell_later hb Y5
      have Y6 := cell_later hb Y6
      obtain ⟨su2, cu2, eu2, -⟩ := id M2A
      subst eu2
      have M1H := h_ (M1A.later hb)
      have M2H := h_ (M2A.later hb)
      have hlt' : (j : Int) < (L.length : Int) := by omega
      have qs := h_ (fun W (hW : Below wr.heap.size wr W) => rsame14_eq k1 t1 a1 b1 c1 d1 su1 su2 cu1 cu2 M1 W (M1H.out.later hW) (M2H.out.later hW))
      clear hz1 M1A M2A hb
      go_wp2_with fail
      try simp only [Act.put]
      refine wp_region_held_drew (S := (fun w' => Below wr.heap.size wr w')) (by kernel_rfl) ((Below.refl _ _).drew) (fun hHeld => ?_)
      have kb0 : Below wr.heap.size wr wr.drew := (Below.refl _ _).drew
      generalize wr.drew = D0 at *
      refine tR 0 ?_ (some 17) rfl (by kernel_rfl) rfl (by rfl) ?_ (fun _ _ _ h => h) (by assumption) ?_
      rotate_left
      · intro w hSw; (try dsimp only at hSw); go_simp; (try with_reducible rfl)
      simp only [Act.put, sIb, sCz, sCs]
      refine tR 1 ?_ (some 18) rfl (by kernel_rfl) rfl (by rfl) ?_ (fun _ _ _ h => h) (by assumption) ?_
      rotate_left
      · intro w hSw; (try dsimp only at hSw); go_simp; (try with_reducible rfl)
      simp only [Act.put, sIb, sCz, sCs]
      refine tR 2 ?_ (some 19) rfl (by kernel_rfl) rfl (by rfl) ?_ (fun _ _ _ h => h) (by assumption) ?_
      rotate_left
      · intro w hSw; (try dsimp only at hSw); go_simp; (try with_reducible rfl)
      simp only [Act.put, sIb, sCz, sCs]
      refine tR 3 ?_ (some 20) rfl (by kernel_rfl) rfl (by rfl) ?_ (fun _ _ _ h => h) (by assumption) ?_
      rotate_left
      · intro w hSw; (try dsimp only at hSw); have hc0 := cell_later hSw X0; have hc1 := cell_later hSw X1; have hc2 := cell_later hSw X2; have hc3 := cell_later hSw X3; have hc4 := cell_later hSw X4; have hc5 := cell_later hSw X5; have hc6 := cell_later hSw X6; go_simp; (try with_reducible rfl)
      simp only [Act.put, sIb, sCz, sCs]
      refine tR 4 ?_ (some 21) rfl (by kernel_rfl) rfl (by rfl) ?_ (fun _ _ _ h => h) (by assumption) ?_
      rotate_left
      · intro w hSw; (try dsimp only at hSw); go_simp; (try with_reducible rfl)
      simp only [Act.put, sIb, sCz, sCs]
      refine tR 5 ?_ (some 22) rfl (by kernel_rfl) rfl (by rfl) ?_ (fun _ _ _ h => h) (by assumption) ?_
      rotate_left
      · intro w hSw; (try dsimp only at hSw); go_simp; (try with_reducible rfl)
      simp only [Act.put, sIb, sCz, sCs]
      refine tR 6 ?_ (some 23) rfl (by kernel_rfl) rfl (by rfl) ?_ (fun _ _ _ h => h) (by assumption) ?_
      rotate_left
      · intro w hSw; (try dsimp only at hSw); go_simp; (try with_reducible rfl)
      simp only [Act.put, sIb, sCz, sCs]
      refine tR 7 ?_ (some 24) rfl (by kernel_rfl) rfl (by rfl) ?_ (fun _ _ _ h => h) (by assumption) ?_
      rotate_left
      · intro w hSw; (try dsimp only at hSw); have hc0 := cell_later hSw Y0; have hc1 := cell_later hSw Y1; have hc2 := cell_later hSw Y2; have hc3 := cell_later hSw Y3; have hc4 := cell_later hSw Y4; have hc5 := cell_later hSw Y5; have hc6 := cell_later hSw Y6; go_simp; (try with_reducible rfl)
      simp only [Act.put, sIb, sCz, sCs]
      refine wpAnyH_ready (rs := [8]) (by kernel_rfl) (by simp) ?_
      refine AllReadyH.cons rfl (fun K hK => ?_) (AllReadyH.nil)
      go_simp
      go_at_call 42
      refine (qs.out _ kb0).mono ?_
      rintro e D1 ⟨rfl, bj⟩
      refine hK.out _ _ (kb0.trans (bj.mono kb0.size)) (fun hHeld => ?_)
      clear hK K
      try simp only [Act.put, sIb, sCz, sCs]
      have kb1 := kb0.trans (bj.mono kb0.size)
      clear bj
      refine tR 9 ?_ (some 26) rfl (by kernel_rfl) rfl (by rfl) ?_ (fun _ _ _ h => h) (by assumption) ?_
      rotate_left
      · intro w hSw; (try dsimp only at hSw); go_simp; (try with_reducible rfl)
      simp only [Act.put, sIb, sCz, sCs]
      refine wpAnyH_done (by kernel_rfl) ?_ _
      go_wp2
      go_roundw
      case rel => exact ⟨j + 1, by omega, by go_num, h_ (HB9.out.trans (kb1.mono HB9.out.size))⟩
      case measure => simp [intOf]; omega
    · have hlt' : ¬ (j : Int) < (L.length : Int) := by omega
      go_wp2
      go_ret
      exact ⟨rfl, HB9.out⟩
end Go.Proofs.YthhijfphfcmniaaGreat
