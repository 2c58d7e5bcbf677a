import Derived.Test.YtbdbehdgpmfelaaYd
import Derived.Deep.RegionHeld3
import Derived.Deep.MidRow
import Derived.Deep.Cut
namespace Go.Proofs.Ytbdbehdgpmfelaa
open Go Go.RowKit
set_option linter.unusedVariables false
set_option linter.unusedSimpArgs false

set_option maxRecDepth 100000 in
set_option maxHeartbeats 8000000 in
theorem coverMeets_walk (c : List Q4) (L : List (List Q4)) (v : Value) (hc : isC c) (w : World) (hv : CubesAt w v L) :
    Calls Try.prog 4 #[cv c, v] w fun e w' => e = .returned (.bool true) ∧ Below w.heap.size w w' := by
  have HV := hide_ hv
  have HC := hide_ hc
  have hlc := hide_ hc.1
  obtain ⟨ad, cap, rfl, h1, h2⟩ := hv.form
  have A0 := hide_ (AB.at0 w 28 (tdc c))
  have B0 := hide_ (below1 w (.cells (tdc c).toArray 28))
  have aw := hide_ (fun w => awake8_any w)
  have HM := hide_ (fun x (hx : x ∈ meetsC c L) => hv.2 x (List.mem_filter.1 hx).1)
  obtain ⟨nn, hnn⟩ : ∃ nn, L.length = nn := ⟨_, rfl⟩
  have HNN := hide_ hnn
  rw [hnn] at HV ⊢
  by_cases hlt : nn ≤ 200
  · have hlt' : ¬ (200 : Int) < (nn : Int) := by omega
    have hn : L.length ≤ 100000 := by omega
    have HW := hide_ (HV.out.later B0.out)
    obtain ⟨V, hV⟩ : ∃ V, w.alloc (.cells (tdc c).toArray 28) = V := ⟨_, rfl⟩
    rw [hV] at HW
    have qm := fun W (hb : Below V.heap.size V W) => vmeets_any c L (.slice ad nn cap) HC.out W (HW.out.later hb) (by omega)
    have qr := fun W (hb : Below V.heap.size V W) => rvmeets_any c L (.slice ad nn cap) HC.out W (HW.out.later hb) hn
    have qb := fun W (hb : Below V.heap.size V W) => vbound_any c L (.slice ad nn cap) HC.out W (HW.out.later hb) (by omega)
    have qs := fun W (hb : Below V.heap.size V W) => rvbound_any c L (.slice ad nn cap) HC.out W (HW.out.later hb) hn
    have eB : ∀ n : Nat, ((n : Int) == (n : Int)) = true := fun n => by simp
    generalize bnd (meetsC c L) (meetsC c L).length = bb at *
    clear hv hc hnn h1 h2 hn
    unfold cv at *
    have qm := hide_ qm
    have qr := hide_ qr
    have qb := hide_ qb
    have qs := hide_ qs
    have HVV := hide_ hV
    clear hV
    go_enter Try.func4, Try.ntmps4
    go_wp2_with fail
    rw [HVV.out] at A0 B0 ⊢
    try simp only [Act.put]
    refine wp_region_held_drew (S := (fun w' => Below V.heap.size V w')) (by kernel_rfl) ((Below.refl _ _).drew) (fun hHeld => ?_)
    have kb0 : Below V.heap.size V V.drew := (Below.refl _ _).drew
    generalize V.drew = D0 at *
    refine takeL Try.underlying28 (i := 0) rfl (by kernel_rfl) (by kernel_rfl) (by kernel_rfl) (some 9) rfl (.tmp 2) rfl (by rfl) w.heap.size rfl (tdc c) (szC hlc.out) (fun _ h => (A0.out.later h).range) (fun _ _ _ h => h) (by assumption) ?_
    simp only [Act.put, List.setIfInBounds_toArray, List.set_cons_zero, List.set_cons_succ]
    refine takeR (i := 1) (v := ?_) rfl (by kernel_rfl) (by kernel_rfl) (by kernel_rfl) (some 10) rfl (Or.inl ⟨by rfl, ?_⟩) (fun _ _ _ h => h) (by assumption) ?_
    rotate_left
    · intro w hSw; (try dsimp only at hSw); go_simp; (try with_reducible rfl)
    simp only [Act.put, List.setIfInBounds_toArray, List.set_cons_zero, List.set_cons_succ]
    refine takeL Try.underlying28 (i := 3) rfl (by kernel_rfl) (by kernel_rfl) (by kernel_rfl) (some 12) rfl (.tmp 2) rfl (by rfl) w.heap.size rfl (tdc c) (szC hlc.out) (fun _ h => (A0.out.later h).range) (fun _ _ _ h => h) (by assumption) ?_
    simp only [Act.put, List.setIfInBounds_toArray, List.set_cons_zero, List.set_cons_succ]
    refine takeR (i := 4) (v := ?_) rfl (by kernel_rfl) (by kernel_rfl) (by kernel_rfl) (some 13) rfl (Or.inl ⟨by rfl, ?_⟩) (fun _ _ _ h => h) (by assumption) ?_
    rotate_left
    · intro w hSw; (try dsimp only at hSw); go_simp; (try with_reducible rfl)
    simp only [Act.put, List.setIfInBounds_toArray, List.set_cons_zero, List.set_cons_succ]
    refine wpAnyH_ready (rs := [2]) (by kernel_rfl) (by simp) ?_
    refine AllReadyH.cons rfl (fun K hK => ?_) (AllReadyH.nil)
    go_simp
    go_at_call 12
    refine (qm.out _ kb0).mono ?_
    rintro e D1 ⟨u1, rfl, o1, bj⟩
    refine hK.out _ _ (kb0.trans (bj.mono kb0.size)) (fun hHeld => ?_)
    clear hK K
    try simp only [Act.put, List.setIfInBounds_toArray, List.set_cons_zero, List.set_cons_succ]
    have kb1 := kb0.trans (bj.mono kb0.size)
    have U1 := hide_ (cubes_own o1 HM.out)
    clear o1
    clear bj
    refine wpAnyH_ready (rs := [5]) (by kernel_rfl) (by simp) ?_
    refine AllReadyH.cons rfl (fun K hK => ?_) (AllReadyH.nil)
    go_simp
    go_at_call 13
    refine (qr.out _ kb1).mono ?_
    rintro e D2 ⟨u2, rfl, o2, bj⟩
    refine hK.out _ _ (kb1.trans (bj.mono kb1.size)) (fun hHeld => ?_)
    clear hK K
    try simp only [Act.put, List.setIfInBounds_toArray, List.set_cons_zero, List.set_cons_succ]
    have kb2 := kb1.trans (bj.mono kb1.size)
    have U2 := hide_ (cubes_own o2 HM.out)
    replace U1 := hide_ (U1.out.later bj)
    clear o2
    clear bj
    refine wpAnyH_ready (rs := [6]) (by kernel_rfl) (by simp) ?_
    refine AllReadyH.cons rfl (fun K hK => ?_) (AllReadyH.nil)
    go_simp
    go_at_call 11
    refine (cequal_same u1 u2 (meetsC c L) _ U1.out U2.out).mono ?_
    rintro e D3 ⟨rfl, bj⟩
    refine hK.out _ _ (kb2.trans (bj.mono kb2.size)) (fun hHeld => ?_)
    clear hK K
    try simp only [Act.put, List.setIfInBounds_toArray, List.set_cons_zero, List.set_cons_succ]
    have kb3 := kb2.trans (bj.mono kb2.size)
    clear bj
    refine takeR (i := 7) (v := ?_) rfl (by kernel_rfl) (by kernel_rfl) (by kernel_rfl) (some 16) rfl (Or.inl ⟨by rfl, ?_⟩) (fun _ _ _ h => h) (by assumption) ?_
    rotate_left
    · intro w hSw; (try dsimp only at hSw); go_simp; (try with_reducible rfl)
    simp only [Act.put, List.setIfInBounds_toArray, List.set_cons_zero, List.set_cons_succ]
    refine takeL Try.underlying28 (i := 8) rfl (by kernel_rfl) (by kernel_rfl) (by kernel_rfl) (some 17) rfl (.tmp 2) rfl (by rfl) w.heap.size rfl (tdc c) (szC hlc.out) (fun _ h => (A0.out.later h).range) (fun _ _ _ h => h) (by assumption) ?_
    simp only [Act.put, List.setIfInBounds_toArray, List.set_cons_zero, List.set_cons_succ]
    refine takeR (i := 9) (v := ?_) rfl (by kernel_rfl) (by kernel_rfl) (by kernel_rfl) (some 18) rfl (Or.inl ⟨by rfl, ?_⟩) (fun _ _ _ h => h) (by assumption) ?_
    rotate_left
    · intro w hSw; (try dsimp only at hSw); go_simp; (try with_reducible rfl)
    simp only [Act.put, List.setIfInBounds_toArray, List.set_cons_zero, List.set_cons_succ]
    refine takeL Try.underlying28 (i := 11) rfl (by kernel_rfl) (by kernel_rfl) (by kernel_rfl) (some 20) rfl (.tmp 2) rfl (by rfl) w.heap.size rfl (tdc c) (szC hlc.out) (fun _ h => (A0.out.later h).range) (fun _ _ _ h => h) (by assumption) ?_
    simp only [Act.put, List.setIfInBounds_toArray, List.set_cons_zero, List.set_cons_succ]
    refine takeR (i := 12) (v := ?_) rfl (by kernel_rfl) (by kernel_rfl) (by kernel_rfl) (some 21) rfl (Or.inl ⟨by rfl, ?_⟩) (fun _ _ _ h => h) (by assumption) ?_
    rotate_left
    · intro w hSw; (try dsimp only at hSw); go_simp; (try with_reducible rfl)
    simp only [Act.put, List.setIfInBounds_toArray, List.set_cons_zero, List.set_cons_succ]
    refine wpAnyH_ready (rs := [10]) (by kernel_rfl) (by simp) ?_
    refine AllReadyH.cons rfl (fun K hK => ?_) (AllReadyH.nil)
    go_simp
    go_at_call 14
    refine (qb.out _ kb3).mono ?_
    rintro e D4 ⟨rfl, bj⟩
    refine hK.out _ _ (kb3.trans (bj.mono kb3.size)) (fun hHeld => ?_)
    clear hK K
    try simp only [Act.put, List.setIfInBounds_toArray, List.set_cons_zero, List.set_cons_succ]
    have kb4 := kb3.trans (bj.mono kb3.size)
    clear bj
    refine wpAnyH_ready (rs := [13]) (by kernel_rfl) (by simp) ?_
    refine AllReadyH.cons rfl (fun K hK => ?_) (AllReadyH.nil)
    go_simp
    go_at_call 15
    refine (qs.out _ kb4).mono ?_
    rintro e D5 ⟨rfl, bj⟩
    refine hK.out _ _ (kb4.trans (bj.mono kb4.size)) (fun hHeld => ?_)
    clear hK K
    try simp only [Act.put, List.setIfInBounds_toArray, List.set_cons_zero, List.set_cons_succ]
    have kb5 := kb4.trans (bj.mono kb4.size)
    clear bj
    refine takeR (i := 14) (v := ?_) rfl (by kernel_rfl) (by kernel_rfl) (by kernel_rfl) (some 23) rfl (Or.inl ⟨by rfl, ?_⟩) (fun _ _ _ h => h) (by assumption) ?_
    rotate_left
    · intro w hSw; (try dsimp only at hSw); go_simp; (try with_reducible rfl)
    simp only [Act.put, List.setIfInBounds_toArray, List.set_cons_zero, List.set_cons_succ]
    refine takeR (i := 15) (v := ?_) rfl (by kernel_rfl) (by kernel_rfl) (by kernel_rfl) (some 24) rfl (Or.inl ⟨by rfl, ?_⟩) (fun _ _ _ h => h) (by assumption) ?_
    rotate_left
    · intro w hSw; (try dsimp only at hSw); go_simp; (try with_reducible rfl)
    simp only [Act.put, List.setIfInBounds_toArray, List.set_cons_zero, List.set_cons_succ]
    refine takeR (i := 16) (v := ?_) rfl (by kernel_rfl) (by kernel_rfl) (by kernel_rfl) (some 25) rfl (Or.inl ⟨by rfl, ?_⟩) (fun _ _ _ h => h) (by assumption) ?_
    rotate_left
    · intro w hSw; (try dsimp only at hSw); go_simp; (try with_reducible rfl)
    simp only [Act.put, List.setIfInBounds_toArray, List.set_cons_zero, List.set_cons_succ]
    refine wpAnyH_ready (rs := [17]) (by kernel_rfl) (by simp) ?_
    refine AllReadyH.cons rfl (fun K hK => ?_) (AllReadyH.nil)
    go_simp
    go_at_call 8
    refine (aw.out _).mono ?_
    rintro e D6 ⟨rfl, bj⟩
    refine hK.out _ _ (kb5.trans (bj.mono kb5.size)) (fun hHeld => ?_)
    clear hK K
    try simp only [Act.put, List.setIfInBounds_toArray, List.set_cons_zero, List.set_cons_succ]
    have kb6 := kb5.trans (bj.mono kb5.size)
    clear bj
    refine takeR (i := 18) (v := ?_) rfl (by kernel_rfl) (by kernel_rfl) (by kernel_rfl) (some 27) rfl (Or.inl ⟨by rfl, ?_⟩) (fun _ _ _ h => h) (by assumption) ?_
    rotate_left
    · intro w hSw; (try dsimp only at hSw); go_simp; (try with_reducible rfl)
    simp only [Act.put, List.setIfInBounds_toArray, List.set_cons_zero, List.set_cons_succ]
    refine takeR (i := 19) (v := ?_) rfl (by kernel_rfl) (by kernel_rfl) (by kernel_rfl) (some 4) rfl (Or.inl ⟨by rfl, ?_⟩) (fun _ _ _ h => h) (by assumption) ?_
    rotate_left
    · intro w hSw; (try dsimp only at hSw); go_simp; (try with_reducible rfl)
    simp only [Act.put, List.setIfInBounds_toArray, List.set_cons_zero, List.set_cons_succ]
    refine wpAnyH_done (by kernel_rfl) ?_ _
    go_wp2_with fail
    go_ret
    exact ⟨rfl, B0.out.trans (kb6.mono B0.out.size)⟩
  · have hlt' : (200 : Int) < (nn : Int) := by omega
    clear hv hc hnn h1 h2 HC
    unfold cv at *
    go_enter Try.func4, Try.ntmps4
    go_wp2_with (first | (go_at_call 8; refine (aw.out _).mono ?_; rintro e w1 ⟨rfl, b1⟩))
    go_ret
    exact ⟨rfl, B0.out.trans (b1.mono B0.out.size)⟩

end Go.Proofs.Ytbdbehdgpmfelaa
