import Derived.Test.YtbdbehdgpmfelaaYp
import Derived.Test.YtbdbehdgpmfelaaVza
import Derived.Test.YtbdbehdgpmfelaaVm
import Derived.Test.YtbdbehdgpmfelaaQk
import Derived.Deep.RegionHeld3
import Derived.Deep.MidRow
namespace Go.Proofs.Ytbdbehdgpmfelaa
open Go Go.RowKit
set_option linter.unusedVariables false
set_option linter.unusedSimpArgs false

set_option maxRecDepth 100000 in
set_option maxHeartbeats 8000000 in
/-- the contract of the reference's Meets -/
theorem rvmeets_any (c : List Q4) (L : List (List Q4)) (v : Value) (hc : isC c) (w : World) (hv : CubesAt w v L) (hn : L.length ≤ 100000) :
    Calls Try.prog 13 #[cv c, v] w fun e w' => ∃ u, e = .returned u ∧ w'.ownsRow w.heap.size 28 96 u (meetsC c L).length ((meetsC c L).flatMap tdc) ∧ Below w.heap.size w w' := by
  obtain ⟨ad, cap, rfl, h1, h2⟩ := hv.form
  have HC := hide_ hc
  have hlc := hide_ hc.1
  have HV := hide_ hv
  have A0 := hide_ ((AB.at0 w 28 (tdc c)).alloc (.cells #[] 28))
  have B0 := hide_ (below2 w (.cells (tdc c).toArray 28) (.cells #[] 28))
  obtain ⟨nn, hnn⟩ : ∃ nn, L.length = nn := ⟨_, rfl⟩
  rw [hnn] at HV hn ⊢
  have HNN := hide_ hnn
  have hO : Hid (World.ownsRow ((w.alloc (.cells (tdc c).toArray 28)).alloc (.cells #[] 28)) (w.heap.size + 1) 28 96 (.slice (some ⟨w.heap.size + 1, 0, none⟩) 0 0) 0 []) := hide_ (by have := World.ownsRow_made (base := w.heap.size + 1) (e := 28) (size := 96) (w.alloc (.cells (tdc c).toArray 28)) #[] 0 (by simp) (Nat.zero_le _) rfl; simpa using this)
  clear hnn hv hc h1 h2
  unfold cv at *
  obtain ⟨hz0, -⟩ := zero_of_info zC'
  go_enter Try.func13, Try.ntmps13
  go_wp2_with fail
  generalize (w.alloc (.cells (tdc c).toArray 28)).alloc (.cells #[] 28) = V at *
  go_loopw [5, 6, 7, 8] (fun u i _ _ wr => ∃ j : Nat, j ≤ nn ∧ i = .int .i64 (j : Int) ∧ Hid (wr.ownsRow (w.heap.size + 1) 28 96 u (meetsC c (L.take j)).length ((meetsC c (L.take j)).flatMap tdc)) ∧ Hid (AB wr w.heap.size 28 (tdc c)) ∧ Hid (Below w.heap.size w wr)) (fun _ i _ _ _ => nn - (intOf i).toNat)
  case atStart => exact ⟨0, by omega, rfl, hO, A0, B0⟩
  case round =>
    clear A0 B0 hO
    obtain ⟨j, hj, rfl, HO, HA, HB⟩ := hrel
    by_cases hlt : j < nn
    · have hlt' : (j : Int) < (nn : Int) := by omega
      have hj0 : (0 : Int) ≤ (j : Int) := by omega
      obtain ⟨x, hx⟩ : ∃ x, L[j]? = some x := ⟨_, List.getElem?_eq_getElem (by have := HNN.out; omega)⟩
      have hxC := HV.out.2 x (List.mem_of_getElem? hx)
      have hlx := hide_ hxC.1
      obtain ⟨g, o, e1, hr⟩ := (HV.out.later HB.out).range hx
      subst e1
      have HR := hide_ hr
      have q := fun w => rcmeet_any c x HC.out hxC w
      have hlM := hide_ (meetC_isC c x HC.out hxC).1
      have HT := hide_ (meetsC_take (c := c) hx)
      have hml : (meetsC c (L.take j)).length ≤ j := Nat.le_trans (meetsC_len _ _) (List.length_take_le _ _)
      generalize meetsC c (L.take j) = K at *
      generalize meetC c x = M at *
      have hsA := HA.out.lt
      unfold cv at q
      have hx := hide_ hx
      clear hr hxC
      cases hok : okC c x
      · rw [hok] at q HT
        have q := hide_ q
        go_wp2_with fail
        try simp only [Act.put]
        refine wp_region_held_drew (S := (fun w' => Below wr.heap.size wr w')) (by kernel_rfl) ((Below.refl _ _).drew) (fun hHeld => ?_)
        have kb0 : Below wr.heap.size wr wr.drew := (Below.refl _ _).drew
        generalize wr.drew = D0 at *
        refine takeL Try.underlying28 (i := 0) rfl (by kernel_rfl) (by kernel_rfl) (by kernel_rfl) (some 17) rfl (.tmp 2) rfl (by rfl) w.heap.size rfl (tdc c) (szC hlc.out) (fun w h => (HA.out.later h).range) (fun _ _ _ h => h) (by assumption) ?_
        simp only [Act.put, List.setIfInBounds_toArray, List.set_cons_zero, List.set_cons_succ]
        refine takeR (i := 1) (v := ?_) rfl (by kernel_rfl) (by kernel_rfl) (by kernel_rfl) (some 18) rfl (Or.inl ⟨by rfl, ?_⟩) (fun _ _ _ h => h) (by assumption) ?_
        rotate_left
        · intro w hSw; (try dsimp only at hSw); go_simp; (try with_reducible rfl)
        simp only [Act.put, List.setIfInBounds_toArray, List.set_cons_zero, List.set_cons_succ]
        refine takeR (i := 2) (v := ?_) rfl (by kernel_rfl) (by kernel_rfl) (by kernel_rfl) (some 19) rfl (Or.inl ⟨by rfl, ?_⟩) (fun _ _ _ h => h) (by assumption) ?_
        rotate_left
        · intro w hSw; (try dsimp only at hSw); go_simp; (try with_reducible rfl)
        simp only [Act.put, List.setIfInBounds_toArray, List.set_cons_zero, List.set_cons_succ]
        refine takeR (i := 3) (v := ?_) rfl (by kernel_rfl) (by kernel_rfl) (by kernel_rfl) (some 20) rfl (Or.inl ⟨by rfl, ?_⟩) (fun _ _ _ h => h) (by assumption) ?_
        rotate_left
        · intro w hSw; (try dsimp only at hSw); go_simp; (try with_reducible rfl)
        simp only [Act.put, List.setIfInBounds_toArray, List.set_cons_zero, List.set_cons_succ]
        refine takeM Try.underlying28 (i := 4) rfl (by kernel_rfl) (by kernel_rfl) (by kernel_rfl) (some 21) rfl (.tmp 20) rfl (by rfl) g (o + j * 96) rfl (tdc x) (szC hlx.out) (fun w h => range_later HR.out h) (fun _ _ _ h => h) (by assumption) ?_
        simp only [Act.put, List.setIfInBounds_toArray, List.set_cons_zero, List.set_cons_succ]
        refine wpAnyH_ready (rs := [5, 9]) (by kernel_rfl) (by simp) ?_
        refine AllReadyH.cons rfl (fun K hK => ?_) (AllReadyH.cons rfl (fun K hK => ?_) (AllReadyH.nil))
        · go_simp
          go_at_call 24
          refine (q.out _).mono ?_
          rintro e D1 ⟨rfl, bj⟩
          refine hK.out _ _ (kb0.trans (bj.mono kb0.size)) (fun hHeld => ?_)
          clear hK K
          try simp only [Act.put, List.setIfInBounds_toArray, List.set_cons_zero, List.set_cons_succ]
          have kb1 := kb0.trans (bj.mono kb0.size)
          clear bj
          refine takeR (i := 6) (v := ?_) rfl (by kernel_rfl) (by kernel_rfl) (by kernel_rfl) (some 16) rfl (Or.inl ⟨by rfl, ?_⟩) (fun _ _ _ h => h) (by assumption) ?_
          rotate_left
          · intro w hSw; (try dsimp only at hSw); go_simp; (try with_reducible rfl)
          simp only [Act.put, List.setIfInBounds_toArray, List.set_cons_zero, List.set_cons_succ]
          refine takeR (i := 7) (v := ?_) rfl (by kernel_rfl) (by kernel_rfl) (by kernel_rfl) (some 23) rfl (Or.inl ⟨by rfl, ?_⟩) (fun _ _ _ h => h) (by assumption) ?_
          rotate_left
          · intro w hSw; (try dsimp only at hSw); go_simp; (try with_reducible rfl)
          simp only [Act.put, List.setIfInBounds_toArray, List.set_cons_zero, List.set_cons_succ]
          refine takeR (i := 8) (v := ?_) rfl (by kernel_rfl) (by kernel_rfl) (by kernel_rfl) (some 24) rfl (Or.inl ⟨by rfl, ?_⟩) (fun _ _ _ h => h) (by assumption) ?_
          rotate_left
          · intro w hSw; (try dsimp only at hSw); go_simp; (try with_reducible rfl)
          simp only [Act.put, List.setIfInBounds_toArray, List.set_cons_zero, List.set_cons_succ]
          refine wpAnyH_ready (rs := [9]) (by kernel_rfl) (by simp) ?_
          refine AllReadyH.cons rfl (fun K hK => ?_) (AllReadyH.nil)
          go_simp
          refine hK.out _ _ (kb1.trans ((below1 D1 (.cells (tdc z24q).toArray 28)).mono kb1.size)) (fun hHeld => ?_)
          clear hK K
          try simp only [Act.put, List.setIfInBounds_toArray, List.set_cons_zero, List.set_cons_succ]
          have bj := below1 D1 (.cells (tdc z24q).toArray 28)
          have kb2 := kb1.trans (bj.mono kb1.size)
          have X : Hid (AB (D1.alloc (.cells (tdc z24q).toArray 28)) D1.heap.size 28 (tdc z24q)) := hide_ (by exact AB.at0 D1 28 (tdc z24q))
          have lX : wr.heap.size ≤ D1.heap.size := kb1.size
          clear bj
          generalize D1.alloc (.cells (tdc z24q).toArray 28) = D2 at *
          generalize D1.heap.size = gX at *
          refine wpAnyH_ready (rs := [10]) (by kernel_rfl) (by simp) ?_
          refine AllReadyH.cons rfl (fun K hK => ?_) (AllReadyH.nil)
          refine wp_store_row 28 (.tmp 7) (.tmp 23) rfl gX (tdc M).toArray rfl rfl 28 (tdc z24q).toArray X.out (by simpa using szC hlM.out) (by simp [tdc_length, hlM.out, z24q_len]) (all_oneCell_toArray (tdc_one _)) ?_
          refine hK.out _ _ (kb2.trans (below_row D2 gX wr.heap.size (tdc M).toArray lX)) (fun hHeld => ?_)
          clear hK K
          try simp only [Act.put, List.setIfInBounds_toArray, List.set_cons_zero, List.set_cons_succ]
          have kb3 := kb2.trans (below_row D2 gX wr.heap.size (tdc M).toArray lX)
          replace X := hide_ (X.out.row (cs' := tdc M))
          generalize D2.setRow gX (tdc M).toArray = D3 at *
          refine takeR (i := 11) (v := ?_) rfl (by kernel_rfl) (by kernel_rfl) (by kernel_rfl) (some 8) rfl (Or.inl ⟨by rfl, ?_⟩) (fun _ _ _ h => h) (by assumption) ?_
          rotate_left
          · intro w hSw; (try dsimp only at hSw); go_simp; (try with_reducible rfl)
          simp only [Act.put, List.setIfInBounds_toArray, List.set_cons_zero, List.set_cons_succ]
          refine wpAnyH_done (by kernel_rfl) ?_ _
          have b4 := kb3
          have A4 := hide_ (HA.out.later b4)
          have O4 := hide_ (own_later HO.out b4)
          have B4 := hide_ (HB.out.trans (b4.mono HB.out.size))
          have hs4 := b4.size
          generalize D3 = W4 at *
          clear HO HA HB hHeld
          go_wp2_with fail
          go_roundw
          case rel => exact ⟨j + 1, by omega, by go_num, hide_ (by rw [HT.out]; simpa using O4.out), A4, B4⟩
          case measure => simp [intOf]; omega
        · go_simp
          refine hK.out _ _ (kb0.trans ((below1 D0 (.cells (tdc z24q).toArray 28)).mono kb0.size)) (fun hHeld => ?_)
          clear hK K
          try simp only [Act.put, List.setIfInBounds_toArray, List.set_cons_zero, List.set_cons_succ]
          have bj := below1 D0 (.cells (tdc z24q).toArray 28)
          have kb1 := kb0.trans (bj.mono kb0.size)
          have X : Hid (AB (D0.alloc (.cells (tdc z24q).toArray 28)) D0.heap.size 28 (tdc z24q)) := hide_ (by exact AB.at0 D0 28 (tdc z24q))
          have lX : wr.heap.size ≤ D0.heap.size := kb0.size
          clear bj
          generalize D0.alloc (.cells (tdc z24q).toArray 28) = D1 at *
          generalize D0.heap.size = gX at *
          refine wpAnyH_ready (rs := [5]) (by kernel_rfl) (by simp) ?_
          refine AllReadyH.cons rfl (fun K hK => ?_) (AllReadyH.nil)
          go_simp
          go_at_call 24
          refine (q.out _).mono ?_
          rintro e D2 ⟨rfl, bj⟩
          refine hK.out _ _ (kb1.trans (bj.mono kb1.size)) (fun hHeld => ?_)
          clear hK K
          try simp only [Act.put, List.setIfInBounds_toArray, List.set_cons_zero, List.set_cons_succ]
          have kb2 := kb1.trans (bj.mono kb1.size)
          replace X := hide_ (X.out.later bj)
          clear bj
          refine takeR (i := 6) (v := ?_) rfl (by kernel_rfl) (by kernel_rfl) (by kernel_rfl) (some 16) rfl (Or.inl ⟨by rfl, ?_⟩) (fun _ _ _ h => h) (by assumption) ?_
          rotate_left
          · intro w hSw; (try dsimp only at hSw); go_simp; (try with_reducible rfl)
          simp only [Act.put, List.setIfInBounds_toArray, List.set_cons_zero, List.set_cons_succ]
          refine takeR (i := 7) (v := ?_) rfl (by kernel_rfl) (by kernel_rfl) (by kernel_rfl) (some 23) rfl (Or.inl ⟨by rfl, ?_⟩) (fun _ _ _ h => h) (by assumption) ?_
          rotate_left
          · intro w hSw; (try dsimp only at hSw); go_simp; (try with_reducible rfl)
          simp only [Act.put, List.setIfInBounds_toArray, List.set_cons_zero, List.set_cons_succ]
          refine takeR (i := 8) (v := ?_) rfl (by kernel_rfl) (by kernel_rfl) (by kernel_rfl) (some 24) rfl (Or.inl ⟨by rfl, ?_⟩) (fun _ _ _ h => h) (by assumption) ?_
          rotate_left
          · intro w hSw; (try dsimp only at hSw); go_simp; (try with_reducible rfl)
          simp only [Act.put, List.setIfInBounds_toArray, List.set_cons_zero, List.set_cons_succ]
          refine wpAnyH_ready (rs := [10]) (by kernel_rfl) (by simp) ?_
          refine AllReadyH.cons rfl (fun K hK => ?_) (AllReadyH.nil)
          refine wp_store_row 28 (.tmp 7) (.tmp 23) rfl gX (tdc M).toArray rfl rfl 28 (tdc z24q).toArray X.out (by simpa using szC hlM.out) (by simp [tdc_length, hlM.out, z24q_len]) (all_oneCell_toArray (tdc_one _)) ?_
          refine hK.out _ _ (kb2.trans (below_row D2 gX wr.heap.size (tdc M).toArray lX)) (fun hHeld => ?_)
          clear hK K
          try simp only [Act.put, List.setIfInBounds_toArray, List.set_cons_zero, List.set_cons_succ]
          have kb3 := kb2.trans (below_row D2 gX wr.heap.size (tdc M).toArray lX)
          replace X := hide_ (X.out.row (cs' := tdc M))
          generalize D2.setRow gX (tdc M).toArray = D3 at *
          refine takeR (i := 11) (v := ?_) rfl (by kernel_rfl) (by kernel_rfl) (by kernel_rfl) (some 8) rfl (Or.inl ⟨by rfl, ?_⟩) (fun _ _ _ h => h) (by assumption) ?_
          rotate_left
          · intro w hSw; (try dsimp only at hSw); go_simp; (try with_reducible rfl)
          simp only [Act.put, List.setIfInBounds_toArray, List.set_cons_zero, List.set_cons_succ]
          refine wpAnyH_done (by kernel_rfl) ?_ _
          have b4 := kb3
          have A4 := hide_ (HA.out.later b4)
          have O4 := hide_ (own_later HO.out b4)
          have B4 := hide_ (HB.out.trans (b4.mono HB.out.size))
          have hs4 := b4.size
          generalize D3 = W4 at *
          clear HO HA HB hHeld
          go_wp2_with fail
          go_roundw
          case rel => exact ⟨j + 1, by omega, by go_num, hide_ (by rw [HT.out]; simpa using O4.out), A4, B4⟩
          case measure => simp [intOf]; omega
      · rw [hok] at q HT
        have q := hide_ q
        go_wp2_with fail
        try simp only [Act.put]
        refine wp_region_held_drew (S := (fun w' => Below wr.heap.size wr w')) (by kernel_rfl) ((Below.refl _ _).drew) (fun hHeld => ?_)
        have kb0 : Below wr.heap.size wr wr.drew := (Below.refl _ _).drew
        generalize wr.drew = D0 at *
        refine takeL Try.underlying28 (i := 0) rfl (by kernel_rfl) (by kernel_rfl) (by kernel_rfl) (some 17) rfl (.tmp 2) rfl (by rfl) w.heap.size rfl (tdc c) (szC hlc.out) (fun w h => (HA.out.later h).range) (fun _ _ _ h => h) (by assumption) ?_
        simp only [Act.put, List.setIfInBounds_toArray, List.set_cons_zero, List.set_cons_succ]
        refine takeR (i := 1) (v := ?_) rfl (by kernel_rfl) (by kernel_rfl) (by kernel_rfl) (some 18) rfl (Or.inl ⟨by rfl, ?_⟩) (fun _ _ _ h => h) (by assumption) ?_
        rotate_left
        · intro w hSw; (try dsimp only at hSw); go_simp; (try with_reducible rfl)
        simp only [Act.put, List.setIfInBounds_toArray, List.set_cons_zero, List.set_cons_succ]
        refine takeR (i := 2) (v := ?_) rfl (by kernel_rfl) (by kernel_rfl) (by kernel_rfl) (some 19) rfl (Or.inl ⟨by rfl, ?_⟩) (fun _ _ _ h => h) (by assumption) ?_
        rotate_left
        · intro w hSw; (try dsimp only at hSw); go_simp; (try with_reducible rfl)
        simp only [Act.put, List.setIfInBounds_toArray, List.set_cons_zero, List.set_cons_succ]
        refine takeR (i := 3) (v := ?_) rfl (by kernel_rfl) (by kernel_rfl) (by kernel_rfl) (some 20) rfl (Or.inl ⟨by rfl, ?_⟩) (fun _ _ _ h => h) (by assumption) ?_
        rotate_left
        · intro w hSw; (try dsimp only at hSw); go_simp; (try with_reducible rfl)
        simp only [Act.put, List.setIfInBounds_toArray, List.set_cons_zero, List.set_cons_succ]
        refine takeM Try.underlying28 (i := 4) rfl (by kernel_rfl) (by kernel_rfl) (by kernel_rfl) (some 21) rfl (.tmp 20) rfl (by rfl) g (o + j * 96) rfl (tdc x) (szC hlx.out) (fun w h => range_later HR.out h) (fun _ _ _ h => h) (by assumption) ?_
        simp only [Act.put, List.setIfInBounds_toArray, List.set_cons_zero, List.set_cons_succ]
        refine wpAnyH_ready (rs := [5, 9]) (by kernel_rfl) (by simp) ?_
        refine AllReadyH.cons rfl (fun K hK => ?_) (AllReadyH.cons rfl (fun K hK => ?_) (AllReadyH.nil))
        · go_simp
          go_at_call 24
          refine (q.out _).mono ?_
          rintro e D1 ⟨rfl, bj⟩
          refine hK.out _ _ (kb0.trans (bj.mono kb0.size)) (fun hHeld => ?_)
          clear hK K
          try simp only [Act.put, List.setIfInBounds_toArray, List.set_cons_zero, List.set_cons_succ]
          have kb1 := kb0.trans (bj.mono kb0.size)
          clear bj
          refine takeR (i := 6) (v := ?_) rfl (by kernel_rfl) (by kernel_rfl) (by kernel_rfl) (some 16) rfl (Or.inl ⟨by rfl, ?_⟩) (fun _ _ _ h => h) (by assumption) ?_
          rotate_left
          · intro w hSw; (try dsimp only at hSw); go_simp; (try with_reducible rfl)
          simp only [Act.put, List.setIfInBounds_toArray, List.set_cons_zero, List.set_cons_succ]
          refine takeR (i := 7) (v := ?_) rfl (by kernel_rfl) (by kernel_rfl) (by kernel_rfl) (some 23) rfl (Or.inl ⟨by rfl, ?_⟩) (fun _ _ _ h => h) (by assumption) ?_
          rotate_left
          · intro w hSw; (try dsimp only at hSw); go_simp; (try with_reducible rfl)
          simp only [Act.put, List.setIfInBounds_toArray, List.set_cons_zero, List.set_cons_succ]
          refine takeR (i := 8) (v := ?_) rfl (by kernel_rfl) (by kernel_rfl) (by kernel_rfl) (some 24) rfl (Or.inl ⟨by rfl, ?_⟩) (fun _ _ _ h => h) (by assumption) ?_
          rotate_left
          · intro w hSw; (try dsimp only at hSw); go_simp; (try with_reducible rfl)
          simp only [Act.put, List.setIfInBounds_toArray, List.set_cons_zero, List.set_cons_succ]
          refine wpAnyH_ready (rs := [9]) (by kernel_rfl) (by simp) ?_
          refine AllReadyH.cons rfl (fun K hK => ?_) (AllReadyH.nil)
          go_simp
          refine hK.out _ _ (kb1.trans ((below1 D1 (.cells (tdc z24q).toArray 28)).mono kb1.size)) (fun hHeld => ?_)
          clear hK K
          try simp only [Act.put, List.setIfInBounds_toArray, List.set_cons_zero, List.set_cons_succ]
          have bj := below1 D1 (.cells (tdc z24q).toArray 28)
          have kb2 := kb1.trans (bj.mono kb1.size)
          have X : Hid (AB (D1.alloc (.cells (tdc z24q).toArray 28)) D1.heap.size 28 (tdc z24q)) := hide_ (by exact AB.at0 D1 28 (tdc z24q))
          have lX : wr.heap.size ≤ D1.heap.size := kb1.size
          clear bj
          generalize D1.alloc (.cells (tdc z24q).toArray 28) = D2 at *
          generalize D1.heap.size = gX at *
          refine wpAnyH_ready (rs := [10]) (by kernel_rfl) (by simp) ?_
          refine AllReadyH.cons rfl (fun K hK => ?_) (AllReadyH.nil)
          refine wp_store_row 28 (.tmp 7) (.tmp 23) rfl gX (tdc M).toArray rfl rfl 28 (tdc z24q).toArray X.out (by simpa using szC hlM.out) (by simp [tdc_length, hlM.out, z24q_len]) (all_oneCell_toArray (tdc_one _)) ?_
          refine hK.out _ _ (kb2.trans (below_row D2 gX wr.heap.size (tdc M).toArray lX)) (fun hHeld => ?_)
          clear hK K
          try simp only [Act.put, List.setIfInBounds_toArray, List.set_cons_zero, List.set_cons_succ]
          have kb3 := kb2.trans (below_row D2 gX wr.heap.size (tdc M).toArray lX)
          replace X := hide_ (X.out.row (cs' := tdc M))
          generalize D2.setRow gX (tdc M).toArray = D3 at *
          refine takeR (i := 11) (v := ?_) rfl (by kernel_rfl) (by kernel_rfl) (by kernel_rfl) (some 8) rfl (Or.inl ⟨by rfl, ?_⟩) (fun _ _ _ h => h) (by assumption) ?_
          rotate_left
          · intro w hSw; (try dsimp only at hSw); go_simp; (try with_reducible rfl)
          simp only [Act.put, List.setIfInBounds_toArray, List.set_cons_zero, List.set_cons_succ]
          refine wpAnyH_done (by kernel_rfl) ?_ _
          have b4 := kb3
          have A4 := hide_ (HA.out.later b4)
          have O4 := hide_ (own_later HO.out b4)
          have B4 := hide_ (HB.out.trans (b4.mono HB.out.size))
          have hs4 := b4.size
          generalize D3 = W4 at *
          clear HO HA HB hHeld
          clear HR
          obtain ⟨i0, hi0, hz0', hz1, hz2⟩ := info_parts infoC
          have HII : Hid (Try.prog.info? 28 = some i0 ∧ i0.zero = some (.agg (tdc z24q).toArray) ∧ i0.size = 96 ∧ i0.bytes = 768) := hide_ ⟨hi0, hz0', hz1, hz2⟩
          clear hi0 hz0' hz1 hz2
          obtain ⟨a5, c5, hu5⟩ := own_slice O4.out
          subst hu5
          obtain ⟨g2, o2, e1, hr⟩ := (HV.out.later B4.out).range hx.out
          cases e1
          have HR := hide_ hr
          clear hr
          go_wp2_with (first | (refine wpList_load_mid rfl 28 (.tmp 29) rfl g (o + j * 96) (by simp [Act.eval, Act.put]) (tdc x) _ HR.out Try.underlying28 rfl (szC hlx.out) ?_) | (refine wpList_build1 rfl 29 28 (.tmp 30) rfl (tdc x) (.agg (tdc z24q).toArray) 96 768 (by simp [Act.eval, Act.put]) Try.underlying29 infoC (by simp [Value.cells, szC0]) (by rw [tdc_length, hlx.out]) (by decide) (by decide) ?_) | (at_builtin; refine wpList_append_own_at _ rfl (.tmp 26) (.tmp 31) 29 rfl (w.heap.size + 1) 28 i0 (.agg (tdc z24q).toArray) 96 768 Try.underlying29 HII.out.1 HII.out.2.1 HII.out.2.2.1 HII.out.2.2.2 (by simp [Value.cells, szC0]) (by decide) (.slice a5 K.length c5) K.length (K.flatMap tdc) (by simp [Act.eval, Act.put]) (O4.out.alloc _) ⟨W4.heap.size, 0, none⟩ 1 1 (tdc x) (by simp [Act.eval, Act.put]) (by rw [tdc_length, hlx.out]) (news_alloc _ _ _) (tdc_one _) (by unfold maxLen; omega) (by omega) (by simp; omega) ?_; intro v1 w7 ho1 hgrow hnil hat; obtain ⟨a7, c7, rfl⟩ := own_slice ho1; have ho1 := hide_ ho1; have hgrow := hide_ hgrow; clear hnil hat))
          have hrow : ∀ k, (Value.slice a5 K.length c5).ownBlock = some k → w.heap.size + 1 ≤ k := fun k hk => (own_lt O4.out hk).1
          go_roundw
          case rel => exact ⟨j + 1, by omega, by go_num, hide_ (by rw [HT.out]; have := ho1.out; simpa using this), hide_ ((hgrow.out.block _ (by have := A4.out.lt; simp; omega) (fun e => by have := hrow _ e.symm; omega)).trans (A4.out.alloc _)), hide_ ((B4.out.alloc B4.out.size _).grown hgrow.out (by have := B4.out.size; simp; omega) (fun k hk => by have := hrow k hk; omega))⟩
          case measure => simp [intOf]; omega
        · go_simp
          refine hK.out _ _ (kb0.trans ((below1 D0 (.cells (tdc z24q).toArray 28)).mono kb0.size)) (fun hHeld => ?_)
          clear hK K
          try simp only [Act.put, List.setIfInBounds_toArray, List.set_cons_zero, List.set_cons_succ]
          have bj := below1 D0 (.cells (tdc z24q).toArray 28)
          have kb1 := kb0.trans (bj.mono kb0.size)
          have X : Hid (AB (D0.alloc (.cells (tdc z24q).toArray 28)) D0.heap.size 28 (tdc z24q)) := hide_ (by exact AB.at0 D0 28 (tdc z24q))
          have lX : wr.heap.size ≤ D0.heap.size := kb0.size
          clear bj
          generalize D0.alloc (.cells (tdc z24q).toArray 28) = D1 at *
          generalize D0.heap.size = gX at *
          refine wpAnyH_ready (rs := [5]) (by kernel_rfl) (by simp) ?_
          refine AllReadyH.cons rfl (fun K hK => ?_) (AllReadyH.nil)
          go_simp
          go_at_call 24
          refine (q.out _).mono ?_
          rintro e D2 ⟨rfl, bj⟩
          refine hK.out _ _ (kb1.trans (bj.mono kb1.size)) (fun hHeld => ?_)
          clear hK K
          try simp only [Act.put, List.setIfInBounds_toArray, List.set_cons_zero, List.set_cons_succ]
          have kb2 := kb1.trans (bj.mono kb1.size)
          replace X := hide_ (X.out.later bj)
          clear bj
          refine takeR (i := 6) (v := ?_) rfl (by kernel_rfl) (by kernel_rfl) (by kernel_rfl) (some 16) rfl (Or.inl ⟨by rfl, ?_⟩) (fun _ _ _ h => h) (by assumption) ?_
          rotate_left
          · intro w hSw; (try dsimp only at hSw); go_simp; (try with_reducible rfl)
          simp only [Act.put, List.setIfInBounds_toArray, List.set_cons_zero, List.set_cons_succ]
          refine takeR (i := 7) (v := ?_) rfl (by kernel_rfl) (by kernel_rfl) (by kernel_rfl) (some 23) rfl (Or.inl ⟨by rfl, ?_⟩) (fun _ _ _ h => h) (by assumption) ?_
          rotate_left
          · intro w hSw; (try dsimp only at hSw); go_simp; (try with_reducible rfl)
          simp only [Act.put, List.setIfInBounds_toArray, List.set_cons_zero, List.set_cons_succ]
          refine takeR (i := 8) (v := ?_) rfl (by kernel_rfl) (by kernel_rfl) (by kernel_rfl) (some 24) rfl (Or.inl ⟨by rfl, ?_⟩) (fun _ _ _ h => h) (by assumption) ?_
          rotate_left
          · intro w hSw; (try dsimp only at hSw); go_simp; (try with_reducible rfl)
          simp only [Act.put, List.setIfInBounds_toArray, List.set_cons_zero, List.set_cons_succ]
          refine wpAnyH_ready (rs := [10]) (by kernel_rfl) (by simp) ?_
          refine AllReadyH.cons rfl (fun K hK => ?_) (AllReadyH.nil)
          refine wp_store_row 28 (.tmp 7) (.tmp 23) rfl gX (tdc M).toArray rfl rfl 28 (tdc z24q).toArray X.out (by simpa using szC hlM.out) (by simp [tdc_length, hlM.out, z24q_len]) (all_oneCell_toArray (tdc_one _)) ?_
          refine hK.out _ _ (kb2.trans (below_row D2 gX wr.heap.size (tdc M).toArray lX)) (fun hHeld => ?_)
          clear hK K
          try simp only [Act.put, List.setIfInBounds_toArray, List.set_cons_zero, List.set_cons_succ]
          have kb3 := kb2.trans (below_row D2 gX wr.heap.size (tdc M).toArray lX)
          replace X := hide_ (X.out.row (cs' := tdc M))
          generalize D2.setRow gX (tdc M).toArray = D3 at *
          refine takeR (i := 11) (v := ?_) rfl (by kernel_rfl) (by kernel_rfl) (by kernel_rfl) (some 8) rfl (Or.inl ⟨by rfl, ?_⟩) (fun _ _ _ h => h) (by assumption) ?_
          rotate_left
          · intro w hSw; (try dsimp only at hSw); go_simp; (try with_reducible rfl)
          simp only [Act.put, List.setIfInBounds_toArray, List.set_cons_zero, List.set_cons_succ]
          refine wpAnyH_done (by kernel_rfl) ?_ _
          have b4 := kb3
          have A4 := hide_ (HA.out.later b4)
          have O4 := hide_ (own_later HO.out b4)
          have B4 := hide_ (HB.out.trans (b4.mono HB.out.size))
          have hs4 := b4.size
          generalize D3 = W4 at *
          clear HO HA HB hHeld
          clear HR
          obtain ⟨i0, hi0, hz0', hz1, hz2⟩ := info_parts infoC
          have HII : Hid (Try.prog.info? 28 = some i0 ∧ i0.zero = some (.agg (tdc z24q).toArray) ∧ i0.size = 96 ∧ i0.bytes = 768) := hide_ ⟨hi0, hz0', hz1, hz2⟩
          clear hi0 hz0' hz1 hz2
          obtain ⟨a5, c5, hu5⟩ := own_slice O4.out
          subst hu5
          obtain ⟨g2, o2, e1, hr⟩ := (HV.out.later B4.out).range hx.out
          cases e1
          have HR := hide_ hr
          clear hr
          go_wp2_with (first | (refine wpList_load_mid rfl 28 (.tmp 29) rfl g (o + j * 96) (by simp [Act.eval, Act.put]) (tdc x) _ HR.out Try.underlying28 rfl (szC hlx.out) ?_) | (refine wpList_build1 rfl 29 28 (.tmp 30) rfl (tdc x) (.agg (tdc z24q).toArray) 96 768 (by simp [Act.eval, Act.put]) Try.underlying29 infoC (by simp [Value.cells, szC0]) (by rw [tdc_length, hlx.out]) (by decide) (by decide) ?_) | (at_builtin; refine wpList_append_own_at _ rfl (.tmp 26) (.tmp 31) 29 rfl (w.heap.size + 1) 28 i0 (.agg (tdc z24q).toArray) 96 768 Try.underlying29 HII.out.1 HII.out.2.1 HII.out.2.2.1 HII.out.2.2.2 (by simp [Value.cells, szC0]) (by decide) (.slice a5 K.length c5) K.length (K.flatMap tdc) (by simp [Act.eval, Act.put]) (O4.out.alloc _) ⟨W4.heap.size, 0, none⟩ 1 1 (tdc x) (by simp [Act.eval, Act.put]) (by rw [tdc_length, hlx.out]) (news_alloc _ _ _) (tdc_one _) (by unfold maxLen; omega) (by omega) (by simp; omega) ?_; intro v1 w7 ho1 hgrow hnil hat; obtain ⟨a7, c7, rfl⟩ := own_slice ho1; have ho1 := hide_ ho1; have hgrow := hide_ hgrow; clear hnil hat))
          have hrow : ∀ k, (Value.slice a5 K.length c5).ownBlock = some k → w.heap.size + 1 ≤ k := fun k hk => (own_lt O4.out hk).1
          go_roundw
          case rel => exact ⟨j + 1, by omega, by go_num, hide_ (by rw [HT.out]; have := ho1.out; simpa using this), hide_ ((hgrow.out.block _ (by have := A4.out.lt; simp; omega) (fun e => by have := hrow _ e.symm; omega)).trans (A4.out.alloc _)), hide_ ((B4.out.alloc B4.out.size _).grown hgrow.out (by have := B4.out.size; simp; omega) (fun k hk => by have := hrow k hk; omega))⟩
          case measure => simp [intOf]; omega
    · have hlt' : ¬ (j : Int) < (nn : Int) := by omega
      have e : j = nn := by omega
      subst e
      have e2 : L.take j = L := List.take_of_length_le (by have := HNN.out; omega)
      rw [e2] at HO
      go_wp2_with fail
      go_ret
      exact ⟨_, rfl, ownsRow_mono HO.out (Nat.le_succ _), HB.out⟩

end Go.Proofs.Ytbdbehdgpmfelaa
