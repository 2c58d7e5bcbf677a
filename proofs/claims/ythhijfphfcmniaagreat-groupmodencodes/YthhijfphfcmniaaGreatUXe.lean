import Derived.Test.YthhijfphfcmniaaGreatKRe
import Derived.Test.YthhijfphfcmniaaGreatProg
import Derived.Test.YthhijfphfcmniaaGreatJO
import Derived.Test.YthhijfphfcmniaaGreatJA
import Derived.Test.YthhijfphfcmniaaGreatKNe
import Derived.Deep.RegionHeld3
import Derived.Deep.RegionWith
import Derived.Deep.MidRow
import Derived.Deep.Cut
import Derived.WalkKit
import Derived.OpenShut
import Derived.ChangeSame
import Derived.WideShapes
import Derived.Deep.Slices
import Derived.Lib.SmallJoins
namespace Go.Proofs.YthhijfphfcmniaaGreat
open Go Go.RowKit
set_option linter.unusedVariables false
set_option linter.unusedSimpArgs false

theorem genc_both (c k i : Int) (su : Option Addr) (n cu : Nat) (L : List BK) (w : World) (hL : BuckAt w (.slice su n cu) L) (hF : BFit L) : ∃ (B : List Int) (er : Int), (∀ W, Below w.heap.size w W → Calls Tryz.prog 25 #[.agg #[.int .i64 c, .int .i64 k, .int .i64 i, .slice su n cu]] W fun e w' => ∃ sr cr, e = .returned (.tuple #[.slice sr B.length cr, .int .i64 er]) ∧ Bytes w' (.slice sr B.length cr) B ∧ Below W.heap.size W w') ∧ (∀ W, Below w.heap.size w W → Calls Tryz.prog 26 #[.agg #[.int .i64 c, .int .i64 k, .int .i64 i, .slice su n cu]] W fun e w' => ∃ sr cr, e = .returned (.tuple #[.slice sr B.length cr, .int .i64 er]) ∧ Bytes w' (.slice sr B.length cr) B ∧ Below W.heap.size W w') := by
  by_cases hr : gR c k i L = true
  · refine ⟨gE c k i L, 0, fun W hW => (genc_yes c k i su n cu L W (hL.later hW) hF hr).mono ?_, fun W hW => (rgenc_yes c k i su n cu L W (hL.later hW) hF hr).mono ?_⟩
    · rintro e w' ⟨⟨r, rfl, h⟩, b⟩
      obtain ⟨ra, rc, re⟩ := h.bytes.short
      subst re
      exact ⟨ra, rc, rfl, h.bytes, b⟩
    · rintro e w' ⟨⟨r, rfl, h⟩, b⟩
      obtain ⟨ra, rc, re⟩ := h.bytes.short
      subst re
      exact ⟨ra, rc, rfl, h.bytes, b⟩
  · have hr' : gR c k i L = false := by simpa using hr
    refine ⟨[], 1, fun W hW => (genc_no c k i su n cu L W (hL.later hW) hF hr').mono ?_, fun W hW => (rgenc_no c k i su n cu L W (hL.later hW) hF hr').mono ?_⟩
    · rintro e w' ⟨rfl, b⟩
      exact ⟨none, 0, rfl, Bytes.nil _, b⟩
    · rintro e w' ⟨rfl, b⟩
      exact ⟨none, 0, rfl, Bytes.nil _, b⟩

set_option maxRecDepth 100000 in
set_option maxHeartbeats 8000000 in
theorem groupmodEncodes_walk (c k i : Int) (su : Option Addr) (n cu : Nat) (L : List BK) (c2 k2 i2 : Int) (su2 : Option Addr) (n2 cu2 : Nat) (K : List BK) (w : World) (hL : BuckAt w (.slice su n cu) L) (hF : BFit L) (hK : BuckAt w (.slice su2 n2 cu2) K) :
    Calls Tryz.prog 5 #[.agg #[.int .i64 c, .int .i64 k, .int .i64 i, .slice su n cu], .agg #[.int .i64 c2, .int .i64 k2, .int .i64 i2, .slice su2 n2 cu2]] w fun e w' => e = .returned (.bool true) ∧ Below w.heap.size w w' := by
  obtain ⟨B, er, q1, q2⟩ := genc_both c k i su n cu L w hL hF
  have p1 := hide_ (fun W (hW : Below w.heap.size w W) => plainB_any (.slice su n cu) L 110 W (hL.later hW))
  have p2 := hide_ (fun W (hW : Below w.heap.size w W) => plainB_any (.slice su2 n2 cu2) K 110 W (hK.later hW))
  have q3 := fun W (hW : Below w.heap.size w W) => gright_any c k i su n cu L W (hL.later hW) hF
  have q4 := fun W (hW : Below w.heap.size w W) => rgright_any c k i su n cu L W (hL.later hW) hF
  have q5 := fun W (hW : Below w.heap.size w W) => gsame_any c k i su n cu L c2 k2 i2 su2 n2 cu2 K W (hL.later hW) (hK.later hW)
  have q6 := fun W (hW : Below w.heap.size w W) => rgsame_any c k i su n cu L c2 k2 i2 su2 n2 cu2 K W (hL.later hW) (hK.later hW)
  generalize gR c k i L = z at *
  generalize sameG c k i L c2 k2 i2 K = y at *
  have q1 := hide_ q1
  have q2 := hide_ q2
  have q3 := hide_ q3
  have q4 := hide_ q4
  have q5 := hide_ q5
  have q6 := hide_ q6
  have B0 := hide_ (below2 w (.cells #[.int .i64 c, .int .i64 k, .int .i64 i, .slice su n cu] 50) (.cells #[.int .i64 c2, .int .i64 k2, .int .i64 i2, .slice su2 n2 cu2] 50))
  have A1 := hide_ ((AB.at0 w 50 [.int .i64 c, .int .i64 k, .int .i64 i, .slice su n cu]).alloc (.cells #[.int .i64 c2, .int .i64 k2, .int .i64 i2, .slice su2 n2 cu2] 50))
  have A2 := hide_ (AB.at1 w (.cells #[.int .i64 c, .int .i64 k, .int .i64 i, .slice su n cu] 50) 50 [.int .i64 c2, .int .i64 k2, .int .i64 i2, .slice su2 n2 cu2])
  obtain ⟨x0, x1, x2, x3, -⟩ := A1.out.k4
  obtain ⟨y0, y1, y2, y3, -⟩ := A2.out.k4
  obtain ⟨nn, hnn⟩ : ∃ nn, B.length = nn := ⟨_, rfl⟩
  rw [hnn] at q1 q2
  clear hL hK hF hnn
  go_enter Tryz.func5, Tryz.ntmps5
  go_upto_region 5 with (first
    | (go_at_call 23; first | (refine (p2.out _ k1.out).mono ?_; rintro e w2 ⟨hz2, b2⟩; obtain ⟨z2, rfl⟩ := hz2; have k2 := hide_ (k1.out.trans (b2.mono k1.out.size)); have A1 := hide_ (A1.out.later b2); have A2 := hide_ (A2.out.later b2); obtain ⟨x0, x1, x2, x3, -⟩ := A1.out.k4; clear b2; cases z2) | (refine (p1.out _ B0.out).mono ?_; rintro e w1 ⟨hz1, b1⟩; obtain ⟨z1, rfl⟩ := hz1; have k1 := hide_ (B0.out.trans (b1.mono B0.out.size)); have A1 := hide_ (A1.out.later b1); have A2 := hide_ (A2.out.later b1); obtain ⟨y0, y1, y2, y3, -⟩ := A2.out.k4; clear b1; cases z1))
    | (go_at_call 25; refine (q1.out _ k2.out).mono ?_; rintro e w3 ⟨a3, c3, rfl, h3, b3⟩; have k3 := hide_ (k2.out.trans (b3.mono k2.out.size)); have H3 := hide_ h3; have A1 := hide_ (A1.out.later b3); have A2 := hide_ (A2.out.later b3); obtain ⟨x0, x1, x2, x3, -⟩ := A1.out.k4; clear h3 b3)
    | (go_at_call 26; refine (q2.out _ k3.out).mono ?_; rintro e w4 ⟨a4, c4, rfl, h4, b4⟩; have k4 := hide_ (k3.out.trans (b4.mono k3.out.size)); have H3 := hide_ (H3.out.later b4); have H4 := hide_ h4; have A1 := hide_ (A1.out.later b4); have A2 := hide_ (A2.out.later b4); obtain ⟨x0, x1, x2, x3, -⟩ := A1.out.k4; obtain ⟨y0, y1, y2, y3, -⟩ := A2.out.k4; clear h4 b4)
    | (go_at_call 24; refine (awake18_any _).mono ?_; rintro e w9 ⟨rfl, b9⟩))
  · go_ret
    exact ⟨rfl, k1.out.trans (b9.mono k1.out.size)⟩
  · go_ret
    exact ⟨rfl, k2.out.trans (b9.mono k2.out.size)⟩
  · have qe : Hid (∀ W, Below w4.heap.size w4 W → Calls Tryz.prog 13 #[.slice a3 nn c3, .slice a4 nn c4] W fun e w' => e = .returned (.bool true) ∧ Below W.heap.size W w') := hide_ (fun W hW => by
      have := equal_any _ _ B B W (H3.out.later hW) (H4.out.later hW)
      rwa [beq_self_eq_true] at this)
    refine wp_region_held_drew (S := (fun w' => Below w4.heap.size w4 w')) (by kernel_rfl) ((Below.refl _ _).drew) (fun hHeld => ?_)
    have kb0 : Below w4.heap.size w4 w4.drew := (Below.refl _ _).drew
    generalize w4.drew = D0 at *
    refine takeR (i := 0) (v := ?_) rfl (by kernel_rfl) (by kernel_rfl) (by kernel_rfl) (some 30) rfl (Or.inl ⟨by rfl, ?_⟩) (fun _ _ _ h => h) (by assumption) ?_
    rotate_left
    · intro w hSw; (try dsimp only at hSw); go_simp; (try with_reducible rfl)
    simp only [Act.put, List.setIfInBounds_toArray, List.set_cons_zero, List.set_cons_succ]
    refine takeR (i := 1) (v := ?_) rfl (by kernel_rfl) (by kernel_rfl) (by kernel_rfl) (some 31) rfl (Or.inl ⟨by rfl, ?_⟩) (fun _ _ _ h => h) (by assumption) ?_
    rotate_left
    · intro w hSw; (try dsimp only at hSw); go_simp; (try with_reducible rfl)
    simp only [Act.put, List.setIfInBounds_toArray, List.set_cons_zero, List.set_cons_succ]
    refine wpAnyH_ready (rs := [2]) (by kernel_rfl) (by simp) ?_
    refine AllReadyH.cons rfl (fun K hK => ?_) (AllReadyH.nil)
    go_simp
    go_at_call 13
    refine (qe.out _ kb0).mono ?_
    rintro e D1 ⟨rfl, bj⟩
    refine hK.out _ _ (kb0.trans (bj.mono kb0.size)) (fun hHeld => ?_)
    clear hK K
    try simp only [Act.put, List.setIfInBounds_toArray, List.set_cons_zero, List.set_cons_succ]
    have kb1 := kb0.trans (bj.mono kb0.size)
    clear bj
    refine takeR (i := 3) (v := ?_) rfl (by kernel_rfl) (by kernel_rfl) (by kernel_rfl) (some 33) rfl (Or.inl ⟨by rfl, ?_⟩) (fun _ _ _ h => h) (by assumption) ?_
    rotate_left
    · intro w hSw; (try dsimp only at hSw); go_simp; (try with_reducible rfl)
    simp only [Act.put, List.setIfInBounds_toArray, List.set_cons_zero, List.set_cons_succ]
    refine takeR (i := 4) (v := ?_) rfl (by kernel_rfl) (by kernel_rfl) (by kernel_rfl) (some 34) rfl (Or.inl ⟨by rfl, ?_⟩) (fun _ _ _ h => h) (by assumption) ?_
    rotate_left
    · intro w hSw; (try dsimp only at hSw); go_simp; (try with_reducible rfl)
    simp only [Act.put, List.setIfInBounds_toArray, List.set_cons_zero, List.set_cons_succ]
    refine takeR (i := 5) (v := ?_) rfl (by kernel_rfl) (by kernel_rfl) (by kernel_rfl) (some 35) rfl (Or.inl ⟨by rfl, ?_⟩) (fun _ _ _ h => h) (by assumption) ?_
    rotate_left
    · intro w hSw; (try dsimp only at hSw); go_simp; (try with_reducible rfl)
    simp only [Act.put, List.setIfInBounds_toArray, List.set_cons_zero, List.set_cons_succ]
    refine takeR (i := 6) (v := ?_) rfl (by kernel_rfl) (by kernel_rfl) (by kernel_rfl) (some 36) rfl (Or.inl ⟨by rfl, ?_⟩) (fun _ _ _ h => h) (by assumption) ?_
    rotate_left
    · intro w hSw; (try dsimp only at hSw); go_simp; (try with_reducible rfl)
    simp only [Act.put, List.setIfInBounds_toArray, List.set_cons_zero, List.set_cons_succ]
    refine takeR (i := 7) (v := ?_) rfl (by kernel_rfl) (by kernel_rfl) (by kernel_rfl) (some 37) rfl (Or.inl ⟨by rfl, ?_⟩) (fun _ _ _ h => h) (by assumption) ?_
    rotate_left
    · intro w hSw; (try dsimp only at hSw); go_simp; (try with_reducible rfl)
    simp only [Act.put, List.setIfInBounds_toArray, List.set_cons_zero, List.set_cons_succ]
    refine takeR (i := 8) (v := ?_) rfl (by kernel_rfl) (by kernel_rfl) (by kernel_rfl) (some 38) rfl (Or.inl ⟨by rfl, ?_⟩) (fun _ _ _ h => h) (by assumption) ?_
    rotate_left
    · intro w hSw; (try dsimp only at hSw); go_simp; (try with_reducible rfl)
    simp only [Act.put, List.setIfInBounds_toArray, List.set_cons_zero, List.set_cons_succ]
    refine takeR (i := 9) (v := ?_) rfl (by kernel_rfl) (by kernel_rfl) (by kernel_rfl) (some 39) rfl (Or.inl ⟨by rfl, ?_⟩) (fun _ _ _ h => h) (by assumption) ?_
    rotate_left
    · intro w hSw; (try dsimp only at hSw); have hc0 := cell_later hSw x0; have hc1 := cell_later hSw x1; have hc2 := cell_later hSw x2; have hc3 := cell_later hSw x3; go_simp; (try with_reducible rfl)
    simp only [Act.put, List.setIfInBounds_toArray, List.set_cons_zero, List.set_cons_succ]
    refine takeR (i := 11) (v := ?_) rfl (by kernel_rfl) (by kernel_rfl) (by kernel_rfl) (some 41) rfl (Or.inl ⟨by rfl, ?_⟩) (fun _ _ _ h => h) (by assumption) ?_
    rotate_left
    · intro w hSw; (try dsimp only at hSw); have hc0 := cell_later hSw x0; have hc1 := cell_later hSw x1; have hc2 := cell_later hSw x2; have hc3 := cell_later hSw x3; go_simp; (try with_reducible rfl)
    simp only [Act.put, List.setIfInBounds_toArray, List.set_cons_zero, List.set_cons_succ]
    refine wpAnyH_ready (rs := [10]) (by kernel_rfl) (by simp) ?_
    refine AllReadyH.cons rfl (fun K hK => ?_) (AllReadyH.nil)
    go_simp
    go_at_call 27
    refine (q3.out _ (k4.out.trans ((kb1).mono k4.out.size))).mono ?_
    rintro e D2 ⟨rfl, bj⟩
    refine hK.out _ _ (kb1.trans (bj.mono kb1.size)) (fun hHeld => ?_)
    clear hK K
    try simp only [Act.put, List.setIfInBounds_toArray, List.set_cons_zero, List.set_cons_succ]
    have kb2 := kb1.trans (bj.mono kb1.size)
    clear bj
    refine wpAnyH_ready (rs := [12]) (by kernel_rfl) (by simp) ?_
    refine AllReadyH.cons rfl (fun K hK => ?_) (AllReadyH.nil)
    go_simp
    go_at_call 28
    refine (q4.out _ (k4.out.trans ((kb2).mono k4.out.size))).mono ?_
    rintro e D3 ⟨rfl, bj⟩
    refine hK.out _ _ (kb2.trans (bj.mono kb2.size)) (fun hHeld => ?_)
    clear hK K
    try simp only [Act.put, List.setIfInBounds_toArray, List.set_cons_zero, List.set_cons_succ]
    have kb3 := kb2.trans (bj.mono kb2.size)
    clear bj
    refine takeR (i := 13) (v := ?_) rfl (by kernel_rfl) (by kernel_rfl) (by kernel_rfl) (some 43) rfl (Or.inl ⟨by rfl, ?_⟩) (fun _ _ _ h => h) (by assumption) ?_
    rotate_left
    · intro w hSw; (try dsimp only at hSw); go_simp; (try with_reducible rfl)
    simp only [Act.put, List.setIfInBounds_toArray, List.set_cons_zero, List.set_cons_succ]
    refine takeR (i := 14) (v := ?_) rfl (by kernel_rfl) (by kernel_rfl) (by kernel_rfl) (some 44) rfl (Or.inl ⟨by rfl, ?_⟩) (fun _ _ _ h => h) (by assumption) ?_
    rotate_left
    · intro w hSw; (try dsimp only at hSw); go_simp; (try with_reducible rfl)
    simp only [Act.put, List.setIfInBounds_toArray, List.set_cons_zero, List.set_cons_succ]
    refine takeR (i := 15) (v := ?_) rfl (by kernel_rfl) (by kernel_rfl) (by kernel_rfl) (some 45) rfl (Or.inl ⟨by rfl, ?_⟩) (fun _ _ _ h => h) (by assumption) ?_
    rotate_left
    · intro w hSw; (try dsimp only at hSw); go_simp; (try with_reducible rfl)
    simp only [Act.put, List.setIfInBounds_toArray, List.set_cons_zero, List.set_cons_succ]
    refine takeR (i := 16) (v := ?_) rfl (by kernel_rfl) (by kernel_rfl) (by kernel_rfl) (some 46) rfl (Or.inl ⟨by rfl, ?_⟩) (fun _ _ _ h => h) (by assumption) ?_
    rotate_left
    · intro w hSw; (try dsimp only at hSw); have hc0 := cell_later hSw x0; have hc1 := cell_later hSw x1; have hc2 := cell_later hSw x2; have hc3 := cell_later hSw x3; go_simp; (try with_reducible rfl)
    simp only [Act.put, List.setIfInBounds_toArray, List.set_cons_zero, List.set_cons_succ]
    refine takeR (i := 17) (v := ?_) rfl (by kernel_rfl) (by kernel_rfl) (by kernel_rfl) (some 47) rfl (Or.inl ⟨by rfl, ?_⟩) (fun _ _ _ h => h) (by assumption) ?_
    rotate_left
    · intro w hSw; (try dsimp only at hSw); have hc0 := cell_later hSw y0; have hc1 := cell_later hSw y1; have hc2 := cell_later hSw y2; have hc3 := cell_later hSw y3; go_simp; (try with_reducible rfl)
    simp only [Act.put, List.setIfInBounds_toArray, List.set_cons_zero, List.set_cons_succ]
    refine takeR (i := 19) (v := ?_) rfl (by kernel_rfl) (by kernel_rfl) (by kernel_rfl) (some 49) rfl (Or.inl ⟨by rfl, ?_⟩) (fun _ _ _ h => h) (by assumption) ?_
    rotate_left
    · intro w hSw; (try dsimp only at hSw); have hc0 := cell_later hSw x0; have hc1 := cell_later hSw x1; have hc2 := cell_later hSw x2; have hc3 := cell_later hSw x3; go_simp; (try with_reducible rfl)
    simp only [Act.put, List.setIfInBounds_toArray, List.set_cons_zero, List.set_cons_succ]
    refine takeR (i := 20) (v := ?_) rfl (by kernel_rfl) (by kernel_rfl) (by kernel_rfl) (some 50) rfl (Or.inl ⟨by rfl, ?_⟩) (fun _ _ _ h => h) (by assumption) ?_
    rotate_left
    · intro w hSw; (try dsimp only at hSw); have hc0 := cell_later hSw y0; have hc1 := cell_later hSw y1; have hc2 := cell_later hSw y2; have hc3 := cell_later hSw y3; go_simp; (try with_reducible rfl)
    simp only [Act.put, List.setIfInBounds_toArray, List.set_cons_zero, List.set_cons_succ]
    refine wpAnyH_ready (rs := [18]) (by kernel_rfl) (by simp) ?_
    refine AllReadyH.cons rfl (fun K hK => ?_) (AllReadyH.nil)
    go_simp
    go_at_call 29
    refine (q5.out _ (k4.out.trans ((kb3).mono k4.out.size))).mono ?_
    rintro e D4 ⟨rfl, bj⟩
    refine hK.out _ _ (kb3.trans (bj.mono kb3.size)) (fun hHeld => ?_)
    clear hK K
    try simp only [Act.put, List.setIfInBounds_toArray, List.set_cons_zero, List.set_cons_succ]
    have kb4 := kb3.trans (bj.mono kb3.size)
    clear bj
    refine wpAnyH_ready (rs := [21]) (by kernel_rfl) (by simp) ?_
    refine AllReadyH.cons rfl (fun K hK => ?_) (AllReadyH.nil)
    go_simp
    go_at_call 30
    refine (q6.out _ (k4.out.trans ((kb4).mono k4.out.size))).mono ?_
    rintro e D5 ⟨rfl, bj⟩
    refine hK.out _ _ (kb4.trans (bj.mono kb4.size)) (fun hHeld => ?_)
    clear hK K
    try simp only [Act.put, List.setIfInBounds_toArray, List.set_cons_zero, List.set_cons_succ]
    have kb5 := kb4.trans (bj.mono kb4.size)
    clear bj
    refine takeR (i := 22) (v := ?_) rfl (by kernel_rfl) (by kernel_rfl) (by kernel_rfl) (some 52) rfl (Or.inl ⟨by rfl, ?_⟩) (fun _ _ _ h => h) (by assumption) ?_
    rotate_left
    · intro w hSw; (try dsimp only at hSw); go_simp; (try with_reducible rfl)
    simp only [Act.put, List.setIfInBounds_toArray, List.set_cons_zero, List.set_cons_succ]
    refine takeR (i := 23) (v := ?_) rfl (by kernel_rfl) (by kernel_rfl) (by kernel_rfl) (some 53) rfl (Or.inl ⟨by rfl, ?_⟩) (fun _ _ _ h => h) (by assumption) ?_
    rotate_left
    · intro w hSw; (try dsimp only at hSw); go_simp; (try with_reducible rfl)
    simp only [Act.put, List.setIfInBounds_toArray, List.set_cons_zero, List.set_cons_succ]
    refine takeR (i := 24) (v := ?_) rfl (by kernel_rfl) (by kernel_rfl) (by kernel_rfl) (some 54) rfl (Or.inl ⟨by rfl, ?_⟩) (fun _ _ _ h => h) (by assumption) ?_
    rotate_left
    · intro w hSw; (try dsimp only at hSw); go_simp; (try with_reducible rfl)
    simp only [Act.put, List.setIfInBounds_toArray, List.set_cons_zero, List.set_cons_succ]
    refine wpAnyH_ready (rs := [25]) (by kernel_rfl) (by simp) ?_
    refine AllReadyH.cons rfl (fun K hK => ?_) (AllReadyH.nil)
    go_simp
    go_at_call 24
    refine (awake18_any _).mono ?_
    rintro e D6 ⟨rfl, bj⟩
    refine hK.out _ _ (kb5.trans (bj.mono kb5.size)) (fun hHeld => ?_)
    clear hK K
    try simp only [Act.put, List.setIfInBounds_toArray, List.set_cons_zero, List.set_cons_succ]
    have kb6 := kb5.trans (bj.mono kb5.size)
    clear bj
    refine takeR (i := 26) (v := ?_) rfl (by kernel_rfl) (by kernel_rfl) (by kernel_rfl) (some 56) rfl (Or.inl ⟨by rfl, ?_⟩) (fun _ _ _ h => h) (by assumption) ?_
    rotate_left
    · intro w hSw; (try dsimp only at hSw); go_simp; (try with_reducible rfl)
    simp only [Act.put, List.setIfInBounds_toArray, List.set_cons_zero, List.set_cons_succ]
    refine takeR (i := 27) (v := ?_) rfl (by kernel_rfl) (by kernel_rfl) (by kernel_rfl) (some 4) rfl (Or.inl ⟨by rfl, ?_⟩) (fun _ _ _ h => h) (by assumption) ?_
    rotate_left
    · intro w hSw; (try dsimp only at hSw); go_simp; (try with_reducible rfl)
    simp only [Act.put, List.setIfInBounds_toArray, List.set_cons_zero, List.set_cons_succ]
    refine wpAnyH_done (by kernel_rfl) ?_ _
    go_wp2_with fail
    go_ret
    exact ⟨rfl, k4.out.trans (kb6.mono k4.out.size)⟩

end Go.Proofs.YthhijfphfcmniaaGreat

namespace Go.Proofs.YthhijfphfcmniaaGreat
section
open Go Go.RowKit Go.ChangeShapes Go.WideShapes Go.Deep
set_option linter.unusedVariables false
set_option linter.unusedSimpArgs false

theorem addr_add0 (q off n : Nat) : (⟨q, off, none⟩ : Addr).add n = ⟨q, off + n, none⟩ := by
  unfold Addr.add; split <;> simp_all
theorem addr_form {W : World} {x : Addr} {u : Value} (h : W.cell? x = some u) : ∃ q off, x = ⟨q, off, none⟩ := by
  obtain ⟨q, off, s⟩ := x
  cases s with
  | none => exact ⟨q, off, rfl⟩
  | some s =>
    exfalso
    unfold World.cell? at h
    split at h <;> simp at h
end

section
set_option maxRecDepth 100000
open Go Go.RowKit Go.ChangeShapes Go.WideShapes Go.Deep
set_option linter.unusedVariables false
set_option linter.unusedSimpArgs false

def fitO (o : A11) : Prop := o.2.2.2.2.2.2.2.1 < 18446744073709551616 ∧ o.2.2.2.2.2.2.2.2.1 < 18446744073709551616 ∧ o.2.2.2.2.2.2.2.2.2.1 < 18446744073709551616 ∧ o.2.2.2.2.2.2.2.2.2.2 < 18446744073709551616
end

section
set_option maxRecDepth 100000
open Go Go.RowKit Go.ChangeShapes Go.WideShapes Go.Deep
set_option linter.unusedVariables false
set_option linter.unusedSimpArgs false

/-- a slice of flat things that came in, opened at every place -/
theorem open_eachT {H : Type} {enc : TypeId × Value → H} {P : Program} {W : World} {base : Nat} {spare : Nat → Bool} {held : Bool} {t e : TypeId} {fuel0 : Nat} {cs0 : List Value} {x0 : DataW H × List MemPlace} {α : Type} [Inhabited α] (cl : α → List Value) (good : α → Prop) (k : Nat) (hk : 0 < k) (hcl : ∀ o, (cl o).length = k)
    (ht : P.underlying t = some (.slice e)) (hce : P.cellsOf e = k) (one : ∀ {fuel : Nat} {cs : List Value} {x : DataW H × List MemPlace}, DataW.trod enc P W base spare held fuel e cs = some x → ∃ o, cs = cl o ∧ good o)
    (hf : DataW.trod enc P W base spare held fuel0 t cs0 = some x0) :
    ∃ (a : Option Addr) (cap : Nat) (L : List α), cs0 = [.slice a L.length cap] ∧ L.length ≤ cap ∧ cap ≤ maxLen ∧ (a = none → cap = 0) ∧ (∀ o ∈ L, good o) ∧
      ∀ i o, L[i]? = some o → ∃ q off, a = some ⟨q, off, none⟩ ∧ ∀ j u, (cl o)[j]? = some u → W.cell? ⟨q, off + i * k + j, none⟩ = some u := by
  rcases open_slice ht hf with ⟨hcs, -⟩ | ⟨x, len, cap, m, n, D, Pl, hcs, hb, hl, hm, hmm, -, hx⟩
  · subst hcs
    exact ⟨none, 0, [], rfl, Nat.le_refl _, Nat.zero_le _, fun _ => rfl, (fun o ho => by cases ho), (fun i o hi => by simp at hi)⟩
  · subst hcs
    have hlm : len ≤ m := by rw [hmm]; split <;> omega
    obtain ⟨q, hq⟩ := choose_lt (α := α) (n := m) (p := fun i o => good o ∧ ∀ j, j < k → W.cell? (x.add (i * k + j)) = (cl o)[j]?) (fun i hi => by
      obtain ⟨cs', h1, h2⟩ := hx i hi
      rw [hce] at h1
      obtain ⟨o, rfl, go⟩ := one h2
      obtain ⟨-, -, hcell⟩ := World.cells?_some h1
      refine ⟨o, go, fun j hj => ?_⟩
      have := hcell j hj
      rw [add_add] at this
      exact this)
    have hll : ((List.range len).map q).length = len := by simp
    refine ⟨some x, cap, (List.range len).map q, by rw [hll], by omega, hm, (fun e => by cases e), fun o ho => ?_, fun i o hi => ?_⟩
    · obtain ⟨i, hi, rfl⟩ := List.mem_map.1 ho
      exact (hq i (by have := List.mem_range.1 hi; omega)).1
    · rw [List.getElem?_map] at hi
      obtain ⟨i', hi', rfl⟩ := Option.map_eq_some_iff.1 hi
      obtain ⟨hlt, rfl⟩ : i < len ∧ i' = i := by
        rw [List.getElem?_eq_some_iff] at hi'
        obtain ⟨h1, h2⟩ := hi'
        simp at h1 h2
        exact ⟨h1, h2.symm⟩
      have h00 := (hq 0 (by omega)).2 0 hk
      have hlt0 : 0 < (cl (q 0)).length := by rw [hcl]; exact hk
      rw [List.getElem?_eq_getElem hlt0] at h00
      have e0 : x.add (0 * k + 0) = x := by simp [Addr.add]
      rw [e0] at h00
      obtain ⟨b, off, rfl⟩ := addr_form h00
      refine ⟨b, off, rfl, fun j u hj => ?_⟩
      have hjk : j < k := by
        have := (List.getElem?_eq_some_iff.1 hj).1
        rw [hcl] at this; exact this
      have := (hq i' (by omega)).2 j hjk
      rw [addr_add0, hj] at this
      rw [Nat.add_assoc]; exact this

theorem open_actsT {H : Type} {enc : TypeId × Value → H} {W : World} {base : Nat} {spare : Nat → Bool} {held : Bool} {fuel : Nat} {cs : List Value} {x : DataW H × List MemPlace}
    (h : DataW.trod enc Tryz.prog W base spare held fuel 32 cs = some x) : ∃ u L, cs = [u] ∧ ActAt W u L ∧ AFit L := by
  obtain ⟨a, cap, L, rfl, h1, h2, h3, h4, h5⟩ := open_eachT acl fitO 11 (by omega) (fun o => rfl) Tryz.underlying32 (by kernel_rfl) (fun hh => by
    obtain ⟨k, p, x, q, y, f, m, a, b, c, d, e, g1, g2, g3, g4⟩ := eleven_of hh
    exact ⟨(k, p, x, q, y, f, m, a, b, c, d), e, g1, g2, g3, g4⟩) h
  refine ⟨_, L, rfl, ⟨a, cap, rfl, h1, h2, h3, fun i o hi => ?_⟩, fun k p x q y f m a b c d hi => h4 _ hi⟩
  obtain ⟨q, off, e, hc⟩ := h5 i o hi
  exact ⟨q, off, e, fun j u hu => hc j u hu⟩
theorem buck_of {H : Type} {enc : TypeId × Value → H} {W : World} {base : Nat} {spare : Nat → Bool} {held : Bool} {fuel : Nat} {cs : List Value} {x : DataW H × List MemPlace}
    (h : DataW.trod enc Tryz.prog W base spare held fuel 87 cs = some x) : ∃ p : PB, cs = bcl p ∧ ActAt W p.2 p.1.2.2.2 ∧ AFit p.1.2.2.2 := by
  have h28 : Tryz.prog.cellsOf 87 = 4 := by kernel_rfl
  have h22 : Tryz.prog.cellsOf 32 = 1 := by kernel_rfl
  have h3 : Tryz.prog.cellsOf 3 = 1 := by kernel_rfl
  obtain ⟨xs, n, _, rfl, hl, hlen, hf⟩ := DataW.trod_struct Tryz.underlying87 h
  have hlen' : xs.length = 4 := hlen
  match xs, hlen' with
  | [w0, w1, w2, w3], _ =>
    have e0 := hf 0 _ rfl
    have e1 := hf 1 _ rfl
    have e2 := hf 2 _ rfl
    have e3 := hf 3 _ rfl
    obtain ⟨a, ea, _, _⟩ := DataW.trod_int Tryz.underlying3 e0
    obtain ⟨b, eb, _, _⟩ := DataW.trod_int Tryz.underlying3 e1
    obtain ⟨c, ec, _, _⟩ := DataW.trod_int Tryz.underlying3 e2
    obtain ⟨u, L, eu, hA, hF⟩ := open_actsT e3
    refine ⟨((a, b, c, L), u), ?_, hA, hF⟩
    rw [h28] at hl
    match cs, hl with
    | [c0, c1, c2, c3], _ =>
      simp [h22, h3] at ea eb ec eu
      rw [ea, eb, ec, eu]
      rfl
end

end Go.Proofs.YthhijfphfcmniaaGreat

namespace Go.Proofs.YthhijfphfcmniaaGreat
set_option maxRecDepth 100000
open Go Go.RowKit Go.ChangeShapes Go.WideShapes Go.Deep
set_option linter.unusedVariables false
set_option linter.unusedSimpArgs false

theorem open_bucksT {H : Type} {enc : TypeId × Value → H} {W : World} {base : Nat} {spare : Nat → Bool} {held : Bool} {fuel : Nat} {cs : List Value} {x : DataW H × List MemPlace}
    (h : DataW.trod enc Tryz.prog W base spare held fuel 48 cs = some x) : ∃ u L, cs = [u] ∧ BuckAt W u L ∧ BFit L := by
  have : Inhabited PB := ⟨((0, 0, 0, []), .slice none 0 0)⟩
  obtain ⟨a, cap, P, rfl, h1, h2, h3, h4, h5⟩ := open_eachT bcl (fun p : PB => ActAt W p.2 p.1.2.2.2 ∧ AFit p.1.2.2.2) 4 (by omega) (fun o => rfl) Tryz.underlying48 (by kernel_rfl) (fun hh => buck_of hh) h
  refine ⟨_, P.map (·.1), rfl, ⟨a, cap, by rw [List.length_map], by rw [List.length_map]; exact h1, h2, h3, fun i o hi => ?_⟩, fun o ho => ?_⟩
  · rw [List.getElem?_map] at hi
    obtain ⟨p, hp, rfl⟩ := Option.map_eq_some_iff.1 hi
    obtain ⟨q, off, e, hc⟩ := h5 i p hp
    exact ⟨q, off, p.2, e, hc 0 _ rfl, hc 1 _ rfl, hc 2 _ rfl, hc 3 _ rfl, (h4 p (List.mem_of_getElem? hp)).1⟩
  · obtain ⟨p, hp, rfl⟩ := List.mem_map.1 ho
    exact (h4 p hp).2
theorem gmod_of {H : Type} {enc : TypeId × Value → H} {W : World} {base : Nat} {spare : Nat → Bool} {held : Bool} {fuel : Nat} {cs : List Value} {x : DataW H × List MemPlace}
    (h : DataW.trod enc Tryz.prog W base spare held fuel 50 cs = some x) : ∃ (c k i : Int) (su : Option Addr) (n cu : Nat) (L : List BK), cs = [.int .i64 c, .int .i64 k, .int .i64 i, .slice su n cu] ∧ BuckAt W (.slice su n cu) L ∧ BFit L := by
  have h28 : Tryz.prog.cellsOf 50 = 4 := by kernel_rfl
  have h22 : Tryz.prog.cellsOf 48 = 1 := by kernel_rfl
  have h3 : Tryz.prog.cellsOf 3 = 1 := by kernel_rfl
  obtain ⟨xs, n, _, rfl, hl, hlen, hf⟩ := DataW.trod_struct Tryz.underlying50 h
  have hlen' : xs.length = 4 := hlen
  match xs, hlen' with
  | [w0, w1, w2, w3], _ =>
    have e0 := hf 0 _ rfl
    have e1 := hf 1 _ rfl
    have e2 := hf 2 _ rfl
    have e3 := hf 3 _ rfl
    obtain ⟨a, ea, _, _⟩ := DataW.trod_int Tryz.underlying3 e0
    obtain ⟨b, eb, _, _⟩ := DataW.trod_int Tryz.underlying3 e1
    obtain ⟨c, ec, _, _⟩ := DataW.trod_int Tryz.underlying3 e2
    obtain ⟨u, L, eu, hA, hF⟩ := open_bucksT e3
    obtain ⟨s, cap, hu⟩ : ∃ s cap, u = .slice s L.length cap := by
      obtain ⟨s, cap, e, -⟩ := hA
      exact ⟨s, cap, e⟩
    subst hu
    refine ⟨a, b, c, s, L.length, cap, L, ?_, hA, hF⟩
    rw [h28] at hl
    match cs, hl with
    | [c0, c1, c2, c3], _ =>
      simp [h22, h3] at ea eb ec eu
      rw [ea, eb, ec, eu]
/-- a change of groups that came in -/
theorem open_gmod {H : Type} {enc : TypeId × Value → H} {W : World} {r : Reach} {b0 base : Nat} {spare : Nat → Bool} {held : Bool} {v : Value} {d : DataW H} {p : List MemPlace}
    (hv' : Value.okWide Tryz.prog W r b0 50 v) (h : DataW.Trod enc Tryz.prog W base spare held 50 v d p) : ∃ (c k i : Int) (su : Option Addr) (n cu : Nat) (L : List BK), v = .agg #[.int .i64 c, .int .i64 k, .int .i64 i, .slice su n cu] ∧ BuckAt W (.slice su n cu) L ∧ BFit L := by
  obtain ⟨cs, rfl, hsz⟩ := okWide_struct Tryz.underlying50 hv'
  obtain ⟨fuel, hf⟩ := h
  obtain ⟨c, k, i, su, n, cu, L, e, hL, hF⟩ := gmod_of hf
  refine ⟨c, k, i, su, n, cu, L, ?_, hL, hF⟩
  have e' : cs.toList = _ := e
  congr 1
  apply Array.ext'
  rw [e']

end Go.Proofs.YthhijfphfcmniaaGreat

