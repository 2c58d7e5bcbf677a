import Derived.Test.YtbdbehdgpmfelaaYb
import Derived.Test.YtbdbehdgpmfelaaYp
import Derived.Test.YtbdbehdgpmfelaaVz
import Derived.Test.YtbdbehdgpmfelaaVzb
import Derived.Deep.RegionHeld3
import Derived.Deep.MidRow
import Derived.Deep.Cut
import Derived.Great.BuildSlice
namespace Go.Proofs.Ytbdbehdgpmfelaa
open Go Go.RowKit
set_option linter.unusedVariables false
set_option linter.unusedSimpArgs false

theorem wp_build1 {P : Program} {o : Oper} {a : Act} {w : World} {K : Act → World → Prop} {Q : Exit → Act → World → Prop} (t e : TypeId) (x : Operand) (ho : o.op = .buildSlice t 1 #[(0, x)])
    (cs : List Value) (z : Value) (n by' : Nat) (hx : a.eval x = .agg cs.toArray) (hu : P.underlying t = some (.slice e)) (hi : (P.info? e).map (fun i => (i.zero, i.size, i.bytes)) = some (some z, n, by')) (hz : z.cells.size = n) (hn : cs.length = n) (h0 : 0 < n) (h24 : n ≤ 2 ^ 24)
    (h : K (a.put o.dst (.slice (some ⟨w.heap.size, 0, none⟩) 1 1)) (w.alloc (.cells cs.toArray e))) : o.wp P a w K Q := by
  obtain ⟨i0, hi0, hz0, hz1, hz2⟩ := info_parts hi
  refine wp_buildSlice t e 1 _ ho cs.toArray i0 z hu hi0 hz0 (by rw [hz1]; omega) (by rw [hz1]; omega) ?_ h
  have := Great.fill_whole (s := n) h0 [.agg cs.toArray] ((Array.range (1 * i0.size)).map (z.cells[· % z.cells.size]!)) (by simp [Value.cells, hn]) (by simp [hz1])
  rw [hz1] at this ⊢
  simpa [hx, Value.cells] using this
theorem wp_build2 {P : Program} {o : Oper} {a : Act} {w : World} {K : Act → World → Prop} {Q : Exit → Act → World → Prop} (t e : TypeId) (x y : Operand) (ho : o.op = .buildSlice t 2 #[(0, x), (1, y)])
    (cs ds : List Value) (z : Value) (n by' : Nat) (hx : a.eval x = .agg cs.toArray) (hy : a.eval y = .agg ds.toArray) (hu : P.underlying t = some (.slice e)) (hi : (P.info? e).map (fun i => (i.zero, i.size, i.bytes)) = some (some z, n, by')) (hz : z.cells.size = n) (hn : cs.length = n) (hm : ds.length = n) (h0 : 0 < n) (h24 : n ≤ 2 ^ 20)
    (h : K (a.put o.dst (.slice (some ⟨w.heap.size, 0, none⟩) 2 2)) (w.alloc (.cells (cs ++ ds).toArray e))) : o.wp P a w K Q := by
  obtain ⟨i0, hi0, hz0, hz1, hz2⟩ := info_parts hi
  refine wp_buildSlice t e 2 _ ho (cs ++ ds).toArray i0 z hu hi0 hz0 (by rw [hz1]; omega) (by rw [hz1]; omega) ?_ h
  have := Great.fill_whole (s := n) h0 [.agg cs.toArray, .agg ds.toArray] ((Array.range (2 * i0.size)).map (z.cells[· % z.cells.size]!)) (by simp [Value.cells, hn, hm]) (by simp [hz1])
  rw [hz1] at this ⊢
  simpa [hx, hy, Value.cells] using this
theorem szCells : (Value.agg (tdc z24q).toArray).cells.size = 96 := by simp [Value.cells, szC0]
def offQ : List Q4 := z24q.set 0 (0, 0, 0, 1)
def onQ : List Q4 := z24q.set 0 (0, 1, 0, 1)
theorem offQ_isC : isC offQ := isC_of _ (by decide +kernel)
theorem onQ_isC : isC onQ := isC_of _ (by decide +kernel)
theorem aw8_5 : (lookF 5 2 [offQ, onQ] z24q 0).2.1 = false ∧ (lookF 5 2 [offQ, onQ] z24q 0).2.2.1 = 0 := by decide +kernel
theorem aw8_2 : (lookF 2 1 [offQ] z24q 0).2.1 = true ∧ (lookF 2 1 [offQ] z24q 0).2.2.1 = 0 ∧ (lookF 2 1 [offQ] z24q 0).1[0]? = some (0, 1) := by decide +kernel
theorem aw8_1 : (lookF 1 1 [offQ] z24q 0).2.2.1 = 5 := by decide +kernel
theorem aw8_b : bnd (meetsC z24q [offQ]) (meetsC z24q [offQ]).length = 2 := by decide +kernel
theorem aw8_m : (meetsC onQ [offQ, onQ]).length = 1 := by decide +kernel
theorem cubes_ab {w : World} {g n : Nat} {L : List (List Q4)} (h : AB w g 28 (L.flatMap tdc)) (hn : L.length = n) (hm : n ≤ maxLen) (hl : ∀ x ∈ L, isC x) : CubesAt w (.slice (some ⟨g, 0, none⟩) n n) L := by
  subst hn
  refine ⟨⟨?_, some ⟨g, 0, none⟩, L.length, rfl, Nat.le_refl _, hm, (fun e => by cases e), ?_⟩, hl⟩
  · clear h hm
    induction L with
    | nil => rfl
    | cons x L ih => rw [List.flatMap_cons, List.length_append, ih (fun y hy => hl y (by simp [hy])), lenC (hl x (by simp)), List.length_cons]; omega
  · intro a e j u hu
    cases e
    rw [Addr.add_lit, Nat.zero_add]
    exact (h.cell hu).1
theorem cubes1 {w : World} {g : Nat} (h : AB w g 28 (tdc offQ)) : CubesAt w (.slice (some ⟨g, 0, none⟩) 1 1) [offQ] := cubes_ab (L := [offQ]) (by simpa using h) rfl (by decide) (fun x hx => by rw [List.mem_singleton] at hx; rw [hx]; exact offQ_isC)
theorem cubes2 {w : World} {g : Nat} (h : AB w g 28 (tdc offQ ++ tdc onQ)) : CubesAt w (.slice (some ⟨g, 0, none⟩) 2 2) [offQ, onQ] := cubes_ab (L := [offQ, onQ]) (by simpa using h) rfl (by decide) (fun x hx => by
  rcases List.mem_cons.1 hx with rfl | hx
  · exact offQ_isC
  · rw [List.mem_singleton] at hx; rw [hx]; exact onQ_isC)
theorem wdc_one_at {l : List (Nat × Nat)} {a b : Nat} (h : l[0]? = some (a, b)) : (wdc l)[1]? = some (.int .u64 (b : Int)) := by
  cases l with
  | nil => simp at h
  | cons p r =>
    have : p = (a, b) := by simpa using h
    subst this
    simp [wdc]

set_option maxRecDepth 100000 in
set_option maxHeartbeats 8000000 in
theorem awake8_any (w : World) :
    Calls Try.prog 8 #[] w fun e w' => e = .returned (.bool true) ∧ Below w.heap.size w w' := by
  obtain ⟨f51, f52⟩ := aw8_5
  obtain ⟨f21, f22, f23⟩ := aw8_2
  have f1 := aw8_1
  have fb := aw8_b
  have fm := aw8_m
  have q9 : Hid (∀ w, Calls Try.prog 20 #[] w fun e w' => e = .returned (.agg (tdc z24q).toArray) ∧ Below w.heap.size w w') := hide_ (fun w => call_any w)
  have lh5 := hide_ (lookF_len 5 2 [offQ, onQ] z24q 0)
  have lh2 := hide_ (lookF_len 2 1 [offQ] z24q 0)
  have lh1 := hide_ (lookF_len 1 1 [offQ] z24q 0)
  have h2at := hide_ (wdc_one_at f23)
  have qL5 := fun W v (hv : CubesAt W v [offQ, onQ]) => vlook_any z24q [offQ, onQ] v 5 z24q_isC W hv (by decide)
  have qL2 := fun W v (hv : CubesAt W v [offQ]) => vlook_any z24q [offQ] v 2 z24q_isC W hv (by decide)
  have qL1 := fun W v (hv : CubesAt W v [offQ]) => vlook_any z24q [offQ] v 1 z24q_isC W hv (by decide)
  have qB := fun W v (hv : CubesAt W v [offQ]) => vbound_any z24q [offQ] v z24q_isC W hv (by decide)
  have qM : ∀ W v (hv : CubesAt W v [offQ, onQ]), Calls Try.prog 12 #[cv onQ, v] W fun e w' => ∃ u cm, e = .returned (.slice u 1 cm) ∧ Below W.heap.size W w' := fun W v hv => (vmeets_any onQ [offQ, onQ] v onQ_isC W hv (by decide)).mono (by
    rintro e w' ⟨u, rfl, ho, b⟩
    rw [fm] at ho
    obtain ⟨-, ad, cap, rfl, -⟩ := Cells.ofOwn ho
    exact ⟨ad, cap, rfl, b⟩)
  simp only [List.length_cons, List.length_nil, Nat.zero_add] at qL5 qL2 qL1
  rw [fb] at qB
  rw [f51, f52] at qL5
  rw [f21, f22] at qL2
  rw [f1] at qL1
  generalize (lookF 5 2 [offQ, onQ] z24q 0).1 = h5 at *
  generalize (lookF 2 1 [offQ] z24q 0).1 = h2 at *
  generalize (lookF 1 1 [offQ] z24q 0).1 = h1 at *
  generalize (lookF 1 1 [offQ] z24q 0).2.1 = b1 at *
  have lo := hide_ offQ_isC.1
  have ln := hide_ onQ_isC.1
  have hz96 : (tdc z24q).length = 96 := by rw [tdc_length, z24q_len]
  have eo : Hid ((.agg (((((tdc z24q).set 0 (.int .u64 0)).set 1 (.int .u64 0)).set 2 (.int .u64 0)).set 3 (.int .u64 1)).toArray : Value) = .agg (tdc offQ).toArray) := hide_ rfl
  have en : Hid ((.agg (((((tdc z24q).set 0 (.int .u64 0)).set 1 (.int .u64 1)).set 2 (.int .u64 0)).set 3 (.int .u64 1)).toArray : Value) = .agg (tdc onQ).toArray) := hide_ rfl
  have Z1 : Hid (AB ((w.alloc (.cells (tdc z24q).toArray 28)).alloc (.cells (tdc z24q).toArray 28)) w.heap.size 28 (tdc z24q)) := hide_ ((AB.at0 w 28 (tdc z24q)).alloc _)
  have Z2 : Hid (AB (((w.alloc (.cells (tdc z24q).toArray 28)).alloc (.cells (tdc z24q).toArray 28)).setRow w.heap.size (tdc offQ).toArray) (w.heap.size + 1) 28 (tdc z24q)) := hide_ ((AB.at1 w (.cells (tdc z24q).toArray 28) 28 (tdc z24q)).row_far _ (by omega))
  clear f51 f52 f21 f22 f23 f1 fb fm
  unfold cv hv at *
  have qL5 := hide_ qL5
  have qL2 := hide_ qL2
  have qL1 := hide_ qL1
  have qB := hide_ qB
  have qM := hide_ qM
  obtain ⟨hz0, -⟩ := zero_of_info zC'
  obtain ⟨hz1, -⟩ := zero_of_info zH'
  go_enter Try.func8, Try.ntmps8
  go_wp2_with (first | (refine wpList_storeA rfl (.tmp 1) (.tmp 14) rfl w.heap.size (by simp [Act.eval, Act.put]) (tdc z24q) (tdc offQ) (by rw [tdc_length, tdc_length, lo.out, z24q_len]) (szC lo.out) (tdc_one _) (by first | exact eo.out | (simp [Act.eval, Act.put]; first | done | exact eo.out | exact Value.agg.inj eo.out | exact congrArg List.toArray rfl | rfl)) Z1.out ?_) | (refine wpList_storeA rfl (.tmp 2) (.tmp 18) rfl (w.heap.size + 1) (by simp [Act.eval, Act.put]) (tdc z24q) (tdc onQ) (by rw [tdc_length, tdc_length, ln.out, z24q_len]) (szC ln.out) (tdc_one _) (by first | exact en.out | (simp [Act.eval, Act.put]; first | done | exact en.out | exact Value.agg.inj en.out | rfl)) Z2.out ?_))
  have A1 := hide_ ((Z1.out.row (cs' := tdc offQ)).row_far (f := w.heap.size + 1) (tdc onQ).toArray (by omega))
  have A2 := hide_ (Z2.out.row (cs' := tdc onQ))
  have BV : Hid (Below w.heap.size w ((((w.alloc (.cells (tdc z24q).toArray 28)).alloc (.cells (tdc z24q).toArray 28)).setRow w.heap.size (tdc offQ).toArray).setRow (w.heap.size + 1) (tdc onQ).toArray)) := hide_ (((below2 w (.cells (tdc z24q).toArray 28) (.cells (tdc z24q).toArray 28)).trans (below_row _ _ _ _ (Nat.le_refl _))).trans (below_row _ _ _ _ (by omega)))
  clear Z1 Z2
  try simp only [Act.put]
  generalize (((w.alloc (.cells (tdc z24q).toArray 28)).alloc (.cells (tdc z24q).toArray 28)).setRow w.heap.size (tdc offQ).toArray).setRow (w.heap.size + 1) (tdc onQ).toArray = V at *
  go_cut [4, 5] from 12 (fun s4 s5 wx => s4 = .bool false ∧ s5 = .int .i64 0 ∧ Below V.heap.size V wx)
  case first =>
    refine wp_region_held_drew (S := (fun w' => Below V.heap.size V w')) (by kernel_rfl) ((Below.refl _ _).drew) (fun hHeld => ?_)
    have kb0 : Below V.heap.size V V.drew := (Below.refl _ _).drew
    generalize V.drew = D0 at *
    refine takeL Try.underlying28 (i := 1) rfl (by kernel_rfl) (by kernel_rfl) (by kernel_rfl) (some 21) rfl (.tmp 1) rfl (by rfl) w.heap.size rfl (tdc offQ) (szC lo.out) (fun _ h => (A1.out.later h).range) (fun _ _ _ h => h) (by assumption) ?_
    simp only [Act.put, List.setIfInBounds_toArray, List.set_cons_zero, List.set_cons_succ]
    refine takeL Try.underlying28 (i := 2) rfl (by kernel_rfl) (by kernel_rfl) (by kernel_rfl) (some 22) rfl (.tmp 2) rfl (by rfl) (w.heap.size + 1) rfl (tdc onQ) (szC ln.out) (fun _ h => (A2.out.later h).range) (fun _ _ _ h => h) (by assumption) ?_
    simp only [Act.put, List.setIfInBounds_toArray, List.set_cons_zero, List.set_cons_succ]
    refine wpAnyH_ready (rs := [0, 3, 9]) (by kernel_rfl) (by simp) ?_
    refine AllReadyH.cons rfl (fun K hK => ?_) (AllReadyH.cons rfl (fun K hK => ?_) (AllReadyH.cons rfl (fun K hK => ?_) (AllReadyH.nil)))
    · go_simp
      go_at_call 20
      refine (q9.out _).mono ?_
      rintro e D1 ⟨rfl, bj⟩
      refine hK.out _ _ (kb0.trans (bj.mono kb0.size)) (fun hHeld => ?_)
      clear hK K
      try simp only [Act.put, List.setIfInBounds_toArray, List.set_cons_zero, List.set_cons_succ]
      have kb1 := kb0.trans (bj.mono kb0.size)
      clear bj
      refine wpAnyH_ready (rs := [3, 9]) (by kernel_rfl) (by simp) ?_
      refine AllReadyH.cons rfl (fun K hK => ?_) (AllReadyH.cons rfl (fun K hK => ?_) (AllReadyH.nil))
      · refine wp_build2 29 28 (.tmp 21) (.tmp 22) rfl (tdc offQ) (tdc onQ) (.agg (tdc z24q).toArray) 96 768 (by first | rfl | simp [Act.eval, Act.put]) (by first | rfl | simp [Act.eval, Act.put]) Try.underlying29 infoC szCells (by rw [tdc_length, lo.out]) (by rw [tdc_length, ln.out]) (by decide) (by decide) ?_
        refine hK.out _ _ (kb1.trans ((below1 D1 (.cells (tdc offQ ++ tdc onQ).toArray 28)).mono kb1.size)) (fun hHeld => ?_)
        clear hK K
        try simp only [Act.put, List.setIfInBounds_toArray, List.set_cons_zero, List.set_cons_succ]
        have bj := below1 D1 (.cells (tdc offQ ++ tdc onQ).toArray 28)
        have kb2 := kb1.trans (bj.mono kb1.size)
        have B : Hid (AB (D1.alloc (.cells (tdc offQ ++ tdc onQ).toArray 28)) D1.heap.size 28 (tdc offQ ++ tdc onQ)) := hide_ (by exact AB.at0 D1 28 (tdc offQ ++ tdc onQ))
        have lB : V.heap.size ≤ D1.heap.size := kb1.size
        clear bj
        generalize D1.alloc (.cells (tdc offQ ++ tdc onQ).toArray 28) = D2 at *
        generalize D1.heap.size = gB at *
        refine wpAnyH_ready (rs := [4, 9]) (by kernel_rfl) (by simp) ?_
        refine AllReadyH.cons rfl (fun K hK => ?_) (AllReadyH.cons rfl (fun K hK => ?_) (AllReadyH.nil))
        · go_simp
          go_at_call 9
          refine (qL5.out _ _ (cubes2 B.out)).mono ?_
          rintro e D3 ⟨rfl, bj⟩
          refine hK.out _ _ (kb2.trans (bj.mono kb2.size)) (fun hHeld => ?_)
          clear hK K
          try simp only [Act.put, List.setIfInBounds_toArray, List.set_cons_zero, List.set_cons_succ]
          have kb3 := kb2.trans (bj.mono kb2.size)
          replace B := hide_ (B.out.later bj)
          clear bj
          refine takeR (i := 5) (v := ?_) rfl (by kernel_rfl) (by kernel_rfl) (by kernel_rfl) (some 19) rfl (Or.inl ⟨by rfl, ?_⟩) (fun _ _ _ h => h) (by assumption) ?_
          rotate_left
          · intro w hSw; (try dsimp only at hSw); go_simp; (try with_reducible rfl)
          simp only [Act.put, List.setIfInBounds_toArray, List.set_cons_zero, List.set_cons_succ]
          refine takeR (i := 6) (v := ?_) rfl (by kernel_rfl) (by kernel_rfl) (by kernel_rfl) (some 25) rfl (Or.inl ⟨by rfl, ?_⟩) (fun _ _ _ h => h) (by assumption) ?_
          rotate_left
          · intro w hSw; (try dsimp only at hSw); go_simp; (try with_reducible rfl)
          simp only [Act.put, List.setIfInBounds_toArray, List.set_cons_zero, List.set_cons_succ]
          refine takeR (i := 7) (v := ?_) rfl (by kernel_rfl) (by kernel_rfl) (by kernel_rfl) (some 26) rfl (Or.inl ⟨by rfl, ?_⟩) (fun _ _ _ h => h) (by assumption) ?_
          rotate_left
          · intro w hSw; (try dsimp only at hSw); go_simp; (try with_reducible rfl)
          simp only [Act.put, List.setIfInBounds_toArray, List.set_cons_zero, List.set_cons_succ]
          refine takeR (i := 8) (v := ?_) rfl (by kernel_rfl) (by kernel_rfl) (by kernel_rfl) (some 27) rfl (Or.inl ⟨by rfl, ?_⟩) (fun _ _ _ h => h) (by assumption) ?_
          rotate_left
          · intro w hSw; (try dsimp only at hSw); go_simp; (try with_reducible rfl)
          simp only [Act.put, List.setIfInBounds_toArray, List.set_cons_zero, List.set_cons_succ]
          refine wpAnyH_ready (rs := [9]) (by kernel_rfl) (by simp) ?_
          refine AllReadyH.cons rfl (fun K hK => ?_) (AllReadyH.nil)
          go_simp
          refine hK.out _ _ (kb3.trans ((below1 D3 (.cells (wdc z24).toArray 33)).mono kb3.size)) (fun hHeld => ?_)
          clear hK K
          try simp only [Act.put, List.setIfInBounds_toArray, List.set_cons_zero, List.set_cons_succ]
          have bj := below1 D3 (.cells (wdc z24).toArray 33)
          have kb4 := kb3.trans (bj.mono kb3.size)
          have nHB : D3.heap.size ≠ gB := by have := B.out.lt; omega
          replace B := hide_ (B.out.later bj)
          have H : Hid (AB (D3.alloc (.cells (wdc z24).toArray 33)) D3.heap.size 33 (wdc z24)) := hide_ (by exact AB.at0 D3 33 (wdc z24))
          have lH : V.heap.size ≤ D3.heap.size := kb3.size
          clear bj
          generalize D3.alloc (.cells (wdc z24).toArray 33) = D4 at *
          generalize D3.heap.size = gH at *
          refine wpAnyH_ready (rs := [10]) (by kernel_rfl) (by simp) ?_
          refine AllReadyH.cons rfl (fun K hK => ?_) (AllReadyH.nil)
          refine wp_store_row 33 (.tmp 3) (.tmp 25) rfl gH (wdc h5).toArray rfl rfl 33 (wdc z24).toArray H.out (by simpa using szW lh5.out) (by simp only [List.size_toArray, wdc_length, lh5.out, z24_len]) (all_oneCell_toArray (wdc_one _)) ?_
          refine hK.out _ _ (kb4.trans (below_row D4 gH V.heap.size (wdc h5).toArray lH)) (fun hHeld => ?_)
          clear hK K
          try simp only [Act.put, List.setIfInBounds_toArray, List.set_cons_zero, List.set_cons_succ]
          have kb5 := kb4.trans (below_row D4 gH V.heap.size (wdc h5).toArray lH)
          replace B := hide_ (B.out.row_far (f := gH) (wdc h5).toArray (by omega))
          replace H := hide_ (H.out.row (cs' := wdc h5))
          generalize D4.setRow gH (wdc h5).toArray = D5 at *
          refine takeR (i := 11) (v := ?_) rfl (by kernel_rfl) (by kernel_rfl) (by kernel_rfl) (some 4) rfl (Or.inl ⟨by rfl, ?_⟩) (fun _ _ _ h => h) (by assumption) ?_
          rotate_left
          · intro w hSw; (try dsimp only at hSw); go_simp; (try with_reducible rfl)
          simp only [Act.put, List.setIfInBounds_toArray, List.set_cons_zero, List.set_cons_succ]
          refine takeR (i := 12) (v := ?_) rfl (by kernel_rfl) (by kernel_rfl) (by kernel_rfl) (some 5) rfl (Or.inl ⟨by rfl, ?_⟩) (fun _ _ _ h => h) (by assumption) ?_
          rotate_left
          · intro w hSw; (try dsimp only at hSw); go_simp; (try with_reducible rfl)
          simp only [Act.put, List.setIfInBounds_toArray, List.set_cons_zero, List.set_cons_succ]
          refine wpAnyH_done (by kernel_rfl) ?_ _
          go_wp2_with fail
          go_meet
          exact ⟨rfl, rfl, kb5⟩
        · go_simp
          refine hK.out _ _ (kb2.trans ((below1 D2 (.cells (wdc z24).toArray 33)).mono kb2.size)) (fun hHeld => ?_)
          clear hK K
          try simp only [Act.put, List.setIfInBounds_toArray, List.set_cons_zero, List.set_cons_succ]
          have bj := below1 D2 (.cells (wdc z24).toArray 33)
          have kb3 := kb2.trans (bj.mono kb2.size)
          have nHB : D2.heap.size ≠ gB := by have := B.out.lt; omega
          replace B := hide_ (B.out.later bj)
          have H : Hid (AB (D2.alloc (.cells (wdc z24).toArray 33)) D2.heap.size 33 (wdc z24)) := hide_ (by exact AB.at0 D2 33 (wdc z24))
          have lH : V.heap.size ≤ D2.heap.size := kb2.size
          clear bj
          generalize D2.alloc (.cells (wdc z24).toArray 33) = D3 at *
          generalize D2.heap.size = gH at *
          refine wpAnyH_ready (rs := [4]) (by kernel_rfl) (by simp) ?_
          refine AllReadyH.cons rfl (fun K hK => ?_) (AllReadyH.nil)
          go_simp
          go_at_call 9
          refine (qL5.out _ _ (cubes2 B.out)).mono ?_
          rintro e D4 ⟨rfl, bj⟩
          refine hK.out _ _ (kb3.trans (bj.mono kb3.size)) (fun hHeld => ?_)
          clear hK K
          try simp only [Act.put, List.setIfInBounds_toArray, List.set_cons_zero, List.set_cons_succ]
          have kb4 := kb3.trans (bj.mono kb3.size)
          replace B := hide_ (B.out.later bj)
          replace H := hide_ (H.out.later bj)
          clear bj
          refine takeR (i := 5) (v := ?_) rfl (by kernel_rfl) (by kernel_rfl) (by kernel_rfl) (some 19) rfl (Or.inl ⟨by rfl, ?_⟩) (fun _ _ _ h => h) (by assumption) ?_
          rotate_left
          · intro w hSw; (try dsimp only at hSw); go_simp; (try with_reducible rfl)
          simp only [Act.put, List.setIfInBounds_toArray, List.set_cons_zero, List.set_cons_succ]
          refine takeR (i := 6) (v := ?_) rfl (by kernel_rfl) (by kernel_rfl) (by kernel_rfl) (some 25) rfl (Or.inl ⟨by rfl, ?_⟩) (fun _ _ _ h => h) (by assumption) ?_
          rotate_left
          · intro w hSw; (try dsimp only at hSw); go_simp; (try with_reducible rfl)
          simp only [Act.put, List.setIfInBounds_toArray, List.set_cons_zero, List.set_cons_succ]
          refine takeR (i := 7) (v := ?_) rfl (by kernel_rfl) (by kernel_rfl) (by kernel_rfl) (some 26) rfl (Or.inl ⟨by rfl, ?_⟩) (fun _ _ _ h => h) (by assumption) ?_
          rotate_left
          · intro w hSw; (try dsimp only at hSw); go_simp; (try with_reducible rfl)
          simp only [Act.put, List.setIfInBounds_toArray, List.set_cons_zero, List.set_cons_succ]
          refine takeR (i := 8) (v := ?_) rfl (by kernel_rfl) (by kernel_rfl) (by kernel_rfl) (some 27) rfl (Or.inl ⟨by rfl, ?_⟩) (fun _ _ _ h => h) (by assumption) ?_
          rotate_left
          · intro w hSw; (try dsimp only at hSw); go_simp; (try with_reducible rfl)
          simp only [Act.put, List.setIfInBounds_toArray, List.set_cons_zero, List.set_cons_succ]
          refine wpAnyH_ready (rs := [10]) (by kernel_rfl) (by simp) ?_
          refine AllReadyH.cons rfl (fun K hK => ?_) (AllReadyH.nil)
          refine wp_store_row 33 (.tmp 3) (.tmp 25) rfl gH (wdc h5).toArray rfl rfl 33 (wdc z24).toArray H.out (by simpa using szW lh5.out) (by simp only [List.size_toArray, wdc_length, lh5.out, z24_len]) (all_oneCell_toArray (wdc_one _)) ?_
          refine hK.out _ _ (kb4.trans (below_row D4 gH V.heap.size (wdc h5).toArray lH)) (fun hHeld => ?_)
          clear hK K
          try simp only [Act.put, List.setIfInBounds_toArray, List.set_cons_zero, List.set_cons_succ]
          have kb5 := kb4.trans (below_row D4 gH V.heap.size (wdc h5).toArray lH)
          replace B := hide_ (B.out.row_far (f := gH) (wdc h5).toArray (by omega))
          replace H := hide_ (H.out.row (cs' := wdc h5))
          generalize D4.setRow gH (wdc h5).toArray = D5 at *
          refine takeR (i := 11) (v := ?_) rfl (by kernel_rfl) (by kernel_rfl) (by kernel_rfl) (some 4) rfl (Or.inl ⟨by rfl, ?_⟩) (fun _ _ _ h => h) (by assumption) ?_
          rotate_left
          · intro w hSw; (try dsimp only at hSw); go_simp; (try with_reducible rfl)
          simp only [Act.put, List.setIfInBounds_toArray, List.set_cons_zero, List.set_cons_succ]
          refine takeR (i := 12) (v := ?_) rfl (by kernel_rfl) (by kernel_rfl) (by kernel_rfl) (some 5) rfl (Or.inl ⟨by rfl, ?_⟩) (fun _ _ _ h => h) (by assumption) ?_
          rotate_left
          · intro w hSw; (try dsimp only at hSw); go_simp; (try with_reducible rfl)
          simp only [Act.put, List.setIfInBounds_toArray, List.set_cons_zero, List.set_cons_succ]
          refine wpAnyH_done (by kernel_rfl) ?_ _
          go_wp2_with fail
          go_meet
          exact ⟨rfl, rfl, kb5⟩
      · go_simp
        refine hK.out _ _ (kb1.trans ((below1 D1 (.cells (wdc z24).toArray 33)).mono kb1.size)) (fun hHeld => ?_)
        clear hK K
        try simp only [Act.put, List.setIfInBounds_toArray, List.set_cons_zero, List.set_cons_succ]
        have bj := below1 D1 (.cells (wdc z24).toArray 33)
        have kb2 := kb1.trans (bj.mono kb1.size)
        have H : Hid (AB (D1.alloc (.cells (wdc z24).toArray 33)) D1.heap.size 33 (wdc z24)) := hide_ (by exact AB.at0 D1 33 (wdc z24))
        have lH : V.heap.size ≤ D1.heap.size := kb1.size
        clear bj
        generalize D1.alloc (.cells (wdc z24).toArray 33) = D2 at *
        generalize D1.heap.size = gH at *
        refine wpAnyH_ready (rs := [3]) (by kernel_rfl) (by simp) ?_
        refine AllReadyH.cons rfl (fun K hK => ?_) (AllReadyH.nil)
        refine wp_build2 29 28 (.tmp 21) (.tmp 22) rfl (tdc offQ) (tdc onQ) (.agg (tdc z24q).toArray) 96 768 (by first | rfl | simp [Act.eval, Act.put]) (by first | rfl | simp [Act.eval, Act.put]) Try.underlying29 infoC szCells (by rw [tdc_length, lo.out]) (by rw [tdc_length, ln.out]) (by decide) (by decide) ?_
        refine hK.out _ _ (kb2.trans ((below1 D2 (.cells (tdc offQ ++ tdc onQ).toArray 28)).mono kb2.size)) (fun hHeld => ?_)
        clear hK K
        try simp only [Act.put, List.setIfInBounds_toArray, List.set_cons_zero, List.set_cons_succ]
        have bj := below1 D2 (.cells (tdc offQ ++ tdc onQ).toArray 28)
        have kb3 := kb2.trans (bj.mono kb2.size)
        have nBH : D2.heap.size ≠ gH := by have := H.out.lt; omega
        replace H := hide_ (H.out.later bj)
        have B : Hid (AB (D2.alloc (.cells (tdc offQ ++ tdc onQ).toArray 28)) D2.heap.size 28 (tdc offQ ++ tdc onQ)) := hide_ (by exact AB.at0 D2 28 (tdc offQ ++ tdc onQ))
        have lB : V.heap.size ≤ D2.heap.size := kb2.size
        clear bj
        generalize D2.alloc (.cells (tdc offQ ++ tdc onQ).toArray 28) = D3 at *
        generalize D2.heap.size = gB at *
        refine wpAnyH_ready (rs := [4]) (by kernel_rfl) (by simp) ?_
        refine AllReadyH.cons rfl (fun K hK => ?_) (AllReadyH.nil)
        go_simp
        go_at_call 9
        refine (qL5.out _ _ (cubes2 B.out)).mono ?_
        rintro e D4 ⟨rfl, bj⟩
        refine hK.out _ _ (kb3.trans (bj.mono kb3.size)) (fun hHeld => ?_)
        clear hK K
        try simp only [Act.put, List.setIfInBounds_toArray, List.set_cons_zero, List.set_cons_succ]
        have kb4 := kb3.trans (bj.mono kb3.size)
        replace H := hide_ (H.out.later bj)
        replace B := hide_ (B.out.later bj)
        clear bj
        refine takeR (i := 5) (v := ?_) rfl (by kernel_rfl) (by kernel_rfl) (by kernel_rfl) (some 19) rfl (Or.inl ⟨by rfl, ?_⟩) (fun _ _ _ h => h) (by assumption) ?_
        rotate_left
        · intro w hSw; (try dsimp only at hSw); go_simp; (try with_reducible rfl)
        simp only [Act.put, List.setIfInBounds_toArray, List.set_cons_zero, List.set_cons_succ]
        refine takeR (i := 6) (v := ?_) rfl (by kernel_rfl) (by kernel_rfl) (by kernel_rfl) (some 25) rfl (Or.inl ⟨by rfl, ?_⟩) (fun _ _ _ h => h) (by assumption) ?_
        rotate_left
        · intro w hSw; (try dsimp only at hSw); go_simp; (try with_reducible rfl)
        simp only [Act.put, List.setIfInBounds_toArray, List.set_cons_zero, List.set_cons_succ]
        refine takeR (i := 7) (v := ?_) rfl (by kernel_rfl) (by kernel_rfl) (by kernel_rfl) (some 26) rfl (Or.inl ⟨by rfl, ?_⟩) (fun _ _ _ h => h) (by assumption) ?_
        rotate_left
        · intro w hSw; (try dsimp only at hSw); go_simp; (try with_reducible rfl)
        simp only [Act.put, List.setIfInBounds_toArray, List.set_cons_zero, List.set_cons_succ]
        refine takeR (i := 8) (v := ?_) rfl (by kernel_rfl) (by kernel_rfl) (by kernel_rfl) (some 27) rfl (Or.inl ⟨by rfl, ?_⟩) (fun _ _ _ h => h) (by assumption) ?_
        rotate_left
        · intro w hSw; (try dsimp only at hSw); go_simp; (try with_reducible rfl)
        simp only [Act.put, List.setIfInBounds_toArray, List.set_cons_zero, List.set_cons_succ]
        refine wpAnyH_ready (rs := [10]) (by kernel_rfl) (by simp) ?_
        refine AllReadyH.cons rfl (fun K hK => ?_) (AllReadyH.nil)
        refine wp_store_row 33 (.tmp 3) (.tmp 25) rfl gH (wdc h5).toArray rfl rfl 33 (wdc z24).toArray H.out (by simpa using szW lh5.out) (by simp only [List.size_toArray, wdc_length, lh5.out, z24_len]) (all_oneCell_toArray (wdc_one _)) ?_
        refine hK.out _ _ (kb4.trans (below_row D4 gH V.heap.size (wdc h5).toArray lH)) (fun hHeld => ?_)
        clear hK K
        try simp only [Act.put, List.setIfInBounds_toArray, List.set_cons_zero, List.set_cons_succ]
        have kb5 := kb4.trans (below_row D4 gH V.heap.size (wdc h5).toArray lH)
        replace B := hide_ (B.out.row_far (f := gH) (wdc h5).toArray (by omega))
        replace H := hide_ (H.out.row (cs' := wdc h5))
        generalize D4.setRow gH (wdc h5).toArray = D5 at *
        refine takeR (i := 11) (v := ?_) rfl (by kernel_rfl) (by kernel_rfl) (by kernel_rfl) (some 4) rfl (Or.inl ⟨by rfl, ?_⟩) (fun _ _ _ h => h) (by assumption) ?_
        rotate_left
        · intro w hSw; (try dsimp only at hSw); go_simp; (try with_reducible rfl)
        simp only [Act.put, List.setIfInBounds_toArray, List.set_cons_zero, List.set_cons_succ]
        refine takeR (i := 12) (v := ?_) rfl (by kernel_rfl) (by kernel_rfl) (by kernel_rfl) (some 5) rfl (Or.inl ⟨by rfl, ?_⟩) (fun _ _ _ h => h) (by assumption) ?_
        rotate_left
        · intro w hSw; (try dsimp only at hSw); go_simp; (try with_reducible rfl)
        simp only [Act.put, List.setIfInBounds_toArray, List.set_cons_zero, List.set_cons_succ]
        refine wpAnyH_done (by kernel_rfl) ?_ _
        go_wp2_with fail
        go_meet
        exact ⟨rfl, rfl, kb5⟩
    · refine wp_build2 29 28 (.tmp 21) (.tmp 22) rfl (tdc offQ) (tdc onQ) (.agg (tdc z24q).toArray) 96 768 (by first | rfl | simp [Act.eval, Act.put]) (by first | rfl | simp [Act.eval, Act.put]) Try.underlying29 infoC szCells (by rw [tdc_length, lo.out]) (by rw [tdc_length, ln.out]) (by decide) (by decide) ?_
      refine hK.out _ _ (kb0.trans ((below1 D0 (.cells (tdc offQ ++ tdc onQ).toArray 28)).mono kb0.size)) (fun hHeld => ?_)
      clear hK K
      try simp only [Act.put, List.setIfInBounds_toArray, List.set_cons_zero, List.set_cons_succ]
      have bj := below1 D0 (.cells (tdc offQ ++ tdc onQ).toArray 28)
      have kb1 := kb0.trans (bj.mono kb0.size)
      have B : Hid (AB (D0.alloc (.cells (tdc offQ ++ tdc onQ).toArray 28)) D0.heap.size 28 (tdc offQ ++ tdc onQ)) := hide_ (by exact AB.at0 D0 28 (tdc offQ ++ tdc onQ))
      have lB : V.heap.size ≤ D0.heap.size := kb0.size
      clear bj
      generalize D0.alloc (.cells (tdc offQ ++ tdc onQ).toArray 28) = D1 at *
      generalize D0.heap.size = gB at *
      refine wpAnyH_ready (rs := [0, 9]) (by kernel_rfl) (by simp) ?_
      refine AllReadyH.cons rfl (fun K hK => ?_) (AllReadyH.cons rfl (fun K hK => ?_) (AllReadyH.nil))
      · go_simp
        go_at_call 20
        refine (q9.out _).mono ?_
        rintro e D2 ⟨rfl, bj⟩
        refine hK.out _ _ (kb1.trans (bj.mono kb1.size)) (fun hHeld => ?_)
        clear hK K
        try simp only [Act.put, List.setIfInBounds_toArray, List.set_cons_zero, List.set_cons_succ]
        have kb2 := kb1.trans (bj.mono kb1.size)
        replace B := hide_ (B.out.later bj)
        clear bj
        refine wpAnyH_ready (rs := [4, 9]) (by kernel_rfl) (by simp) ?_
        refine AllReadyH.cons rfl (fun K hK => ?_) (AllReadyH.cons rfl (fun K hK => ?_) (AllReadyH.nil))
        · go_simp
          go_at_call 9
          refine (qL5.out _ _ (cubes2 B.out)).mono ?_
          rintro e D3 ⟨rfl, bj⟩
          refine hK.out _ _ (kb2.trans (bj.mono kb2.size)) (fun hHeld => ?_)
          clear hK K
          try simp only [Act.put, List.setIfInBounds_toArray, List.set_cons_zero, List.set_cons_succ]
          have kb3 := kb2.trans (bj.mono kb2.size)
          replace B := hide_ (B.out.later bj)
          clear bj
          refine takeR (i := 5) (v := ?_) rfl (by kernel_rfl) (by kernel_rfl) (by kernel_rfl) (some 19) rfl (Or.inl ⟨by rfl, ?_⟩) (fun _ _ _ h => h) (by assumption) ?_
          rotate_left
          · intro w hSw; (try dsimp only at hSw); go_simp; (try with_reducible rfl)
          simp only [Act.put, List.setIfInBounds_toArray, List.set_cons_zero, List.set_cons_succ]
          refine takeR (i := 6) (v := ?_) rfl (by kernel_rfl) (by kernel_rfl) (by kernel_rfl) (some 25) rfl (Or.inl ⟨by rfl, ?_⟩) (fun _ _ _ h => h) (by assumption) ?_
          rotate_left
          · intro w hSw; (try dsimp only at hSw); go_simp; (try with_reducible rfl)
          simp only [Act.put, List.setIfInBounds_toArray, List.set_cons_zero, List.set_cons_succ]
          refine takeR (i := 7) (v := ?_) rfl (by kernel_rfl) (by kernel_rfl) (by kernel_rfl) (some 26) rfl (Or.inl ⟨by rfl, ?_⟩) (fun _ _ _ h => h) (by assumption) ?_
          rotate_left
          · intro w hSw; (try dsimp only at hSw); go_simp; (try with_reducible rfl)
          simp only [Act.put, List.setIfInBounds_toArray, List.set_cons_zero, List.set_cons_succ]
          refine takeR (i := 8) (v := ?_) rfl (by kernel_rfl) (by kernel_rfl) (by kernel_rfl) (some 27) rfl (Or.inl ⟨by rfl, ?_⟩) (fun _ _ _ h => h) (by assumption) ?_
          rotate_left
          · intro w hSw; (try dsimp only at hSw); go_simp; (try with_reducible rfl)
          simp only [Act.put, List.setIfInBounds_toArray, List.set_cons_zero, List.set_cons_succ]
          refine wpAnyH_ready (rs := [9]) (by kernel_rfl) (by simp) ?_
          refine AllReadyH.cons rfl (fun K hK => ?_) (AllReadyH.nil)
          go_simp
          refine hK.out _ _ (kb3.trans ((below1 D3 (.cells (wdc z24).toArray 33)).mono kb3.size)) (fun hHeld => ?_)
          clear hK K
          try simp only [Act.put, List.setIfInBounds_toArray, List.set_cons_zero, List.set_cons_succ]
          have bj := below1 D3 (.cells (wdc z24).toArray 33)
          have kb4 := kb3.trans (bj.mono kb3.size)
          have nHB : D3.heap.size ≠ gB := by have := B.out.lt; omega
          replace B := hide_ (B.out.later bj)
          have H : Hid (AB (D3.alloc (.cells (wdc z24).toArray 33)) D3.heap.size 33 (wdc z24)) := hide_ (by exact AB.at0 D3 33 (wdc z24))
          have lH : V.heap.size ≤ D3.heap.size := kb3.size
          clear bj
          generalize D3.alloc (.cells (wdc z24).toArray 33) = D4 at *
          generalize D3.heap.size = gH at *
          refine wpAnyH_ready (rs := [10]) (by kernel_rfl) (by simp) ?_
          refine AllReadyH.cons rfl (fun K hK => ?_) (AllReadyH.nil)
          refine wp_store_row 33 (.tmp 3) (.tmp 25) rfl gH (wdc h5).toArray rfl rfl 33 (wdc z24).toArray H.out (by simpa using szW lh5.out) (by simp only [List.size_toArray, wdc_length, lh5.out, z24_len]) (all_oneCell_toArray (wdc_one _)) ?_
          refine hK.out _ _ (kb4.trans (below_row D4 gH V.heap.size (wdc h5).toArray lH)) (fun hHeld => ?_)
          clear hK K
          try simp only [Act.put, List.setIfInBounds_toArray, List.set_cons_zero, List.set_cons_succ]
          have kb5 := kb4.trans (below_row D4 gH V.heap.size (wdc h5).toArray lH)
          replace B := hide_ (B.out.row_far (f := gH) (wdc h5).toArray (by omega))
          replace H := hide_ (H.out.row (cs' := wdc h5))
          generalize D4.setRow gH (wdc h5).toArray = D5 at *
          refine takeR (i := 11) (v := ?_) rfl (by kernel_rfl) (by kernel_rfl) (by kernel_rfl) (some 4) rfl (Or.inl ⟨by rfl, ?_⟩) (fun _ _ _ h => h) (by assumption) ?_
          rotate_left
          · intro w hSw; (try dsimp only at hSw); go_simp; (try with_reducible rfl)
          simp only [Act.put, List.setIfInBounds_toArray, List.set_cons_zero, List.set_cons_succ]
          refine takeR (i := 12) (v := ?_) rfl (by kernel_rfl) (by kernel_rfl) (by kernel_rfl) (some 5) rfl (Or.inl ⟨by rfl, ?_⟩) (fun _ _ _ h => h) (by assumption) ?_
          rotate_left
          · intro w hSw; (try dsimp only at hSw); go_simp; (try with_reducible rfl)
          simp only [Act.put, List.setIfInBounds_toArray, List.set_cons_zero, List.set_cons_succ]
          refine wpAnyH_done (by kernel_rfl) ?_ _
          go_wp2_with fail
          go_meet
          exact ⟨rfl, rfl, kb5⟩
        · go_simp
          refine hK.out _ _ (kb2.trans ((below1 D2 (.cells (wdc z24).toArray 33)).mono kb2.size)) (fun hHeld => ?_)
          clear hK K
          try simp only [Act.put, List.setIfInBounds_toArray, List.set_cons_zero, List.set_cons_succ]
          have bj := below1 D2 (.cells (wdc z24).toArray 33)
          have kb3 := kb2.trans (bj.mono kb2.size)
          have nHB : D2.heap.size ≠ gB := by have := B.out.lt; omega
          replace B := hide_ (B.out.later bj)
          have H : Hid (AB (D2.alloc (.cells (wdc z24).toArray 33)) D2.heap.size 33 (wdc z24)) := hide_ (by exact AB.at0 D2 33 (wdc z24))
          have lH : V.heap.size ≤ D2.heap.size := kb2.size
          clear bj
          generalize D2.alloc (.cells (wdc z24).toArray 33) = D3 at *
          generalize D2.heap.size = gH at *
          refine wpAnyH_ready (rs := [4]) (by kernel_rfl) (by simp) ?_
          refine AllReadyH.cons rfl (fun K hK => ?_) (AllReadyH.nil)
          go_simp
          go_at_call 9
          refine (qL5.out _ _ (cubes2 B.out)).mono ?_
          rintro e D4 ⟨rfl, bj⟩
          refine hK.out _ _ (kb3.trans (bj.mono kb3.size)) (fun hHeld => ?_)
          clear hK K
          try simp only [Act.put, List.setIfInBounds_toArray, List.set_cons_zero, List.set_cons_succ]
          have kb4 := kb3.trans (bj.mono kb3.size)
          replace B := hide_ (B.out.later bj)
          replace H := hide_ (H.out.later bj)
          clear bj
          refine takeR (i := 5) (v := ?_) rfl (by kernel_rfl) (by kernel_rfl) (by kernel_rfl) (some 19) rfl (Or.inl ⟨by rfl, ?_⟩) (fun _ _ _ h => h) (by assumption) ?_
          rotate_left
          · intro w hSw; (try dsimp only at hSw); go_simp; (try with_reducible rfl)
          simp only [Act.put, List.setIfInBounds_toArray, List.set_cons_zero, List.set_cons_succ]
          refine takeR (i := 6) (v := ?_) rfl (by kernel_rfl) (by kernel_rfl) (by kernel_rfl) (some 25) rfl (Or.inl ⟨by rfl, ?_⟩) (fun _ _ _ h => h) (by assumption) ?_
          rotate_left
          · intro w hSw; (try dsimp only at hSw); go_simp; (try with_reducible rfl)
          simp only [Act.put, List.setIfInBounds_toArray, List.set_cons_zero, List.set_cons_succ]
          refine takeR (i := 7) (v := ?_) rfl (by kernel_rfl) (by kernel_rfl) (by kernel_rfl) (some 26) rfl (Or.inl ⟨by rfl, ?_⟩) (fun _ _ _ h => h) (by assumption) ?_
          rotate_left
          · intro w hSw; (try dsimp only at hSw); go_simp; (try with_reducible rfl)
          simp only [Act.put, List.setIfInBounds_toArray, List.set_cons_zero, List.set_cons_succ]
          refine takeR (i := 8) (v := ?_) rfl (by kernel_rfl) (by kernel_rfl) (by kernel_rfl) (some 27) rfl (Or.inl ⟨by rfl, ?_⟩) (fun _ _ _ h => h) (by assumption) ?_
          rotate_left
          · intro w hSw; (try dsimp only at hSw); go_simp; (try with_reducible rfl)
          simp only [Act.put, List.setIfInBounds_toArray, List.set_cons_zero, List.set_cons_succ]
          refine wpAnyH_ready (rs := [10]) (by kernel_rfl) (by simp) ?_
          refine AllReadyH.cons rfl (fun K hK => ?_) (AllReadyH.nil)
          refine wp_store_row 33 (.tmp 3) (.tmp 25) rfl gH (wdc h5).toArray rfl rfl 33 (wdc z24).toArray H.out (by simpa using szW lh5.out) (by simp only [List.size_toArray, wdc_length, lh5.out, z24_len]) (all_oneCell_toArray (wdc_one _)) ?_
          refine hK.out _ _ (kb4.trans (below_row D4 gH V.heap.size (wdc h5).toArray lH)) (fun hHeld => ?_)
          clear hK K
          try simp only [Act.put, List.setIfInBounds_toArray, List.set_cons_zero, List.set_cons_succ]
          have kb5 := kb4.trans (below_row D4 gH V.heap.size (wdc h5).toArray lH)
          replace B := hide_ (B.out.row_far (f := gH) (wdc h5).toArray (by omega))
          replace H := hide_ (H.out.row (cs' := wdc h5))
          generalize D4.setRow gH (wdc h5).toArray = D5 at *
          refine takeR (i := 11) (v := ?_) rfl (by kernel_rfl) (by kernel_rfl) (by kernel_rfl) (some 4) rfl (Or.inl ⟨by rfl, ?_⟩) (fun _ _ _ h => h) (by assumption) ?_
          rotate_left
          · intro w hSw; (try dsimp only at hSw); go_simp; (try with_reducible rfl)
          simp only [Act.put, List.setIfInBounds_toArray, List.set_cons_zero, List.set_cons_succ]
          refine takeR (i := 12) (v := ?_) rfl (by kernel_rfl) (by kernel_rfl) (by kernel_rfl) (some 5) rfl (Or.inl ⟨by rfl, ?_⟩) (fun _ _ _ h => h) (by assumption) ?_
          rotate_left
          · intro w hSw; (try dsimp only at hSw); go_simp; (try with_reducible rfl)
          simp only [Act.put, List.setIfInBounds_toArray, List.set_cons_zero, List.set_cons_succ]
          refine wpAnyH_done (by kernel_rfl) ?_ _
          go_wp2_with fail
          go_meet
          exact ⟨rfl, rfl, kb5⟩
      · go_simp
        refine hK.out _ _ (kb1.trans ((below1 D1 (.cells (wdc z24).toArray 33)).mono kb1.size)) (fun hHeld => ?_)
        clear hK K
        try simp only [Act.put, List.setIfInBounds_toArray, List.set_cons_zero, List.set_cons_succ]
        have bj := below1 D1 (.cells (wdc z24).toArray 33)
        have kb2 := kb1.trans (bj.mono kb1.size)
        have nHB : D1.heap.size ≠ gB := by have := B.out.lt; omega
        replace B := hide_ (B.out.later bj)
        have H : Hid (AB (D1.alloc (.cells (wdc z24).toArray 33)) D1.heap.size 33 (wdc z24)) := hide_ (by exact AB.at0 D1 33 (wdc z24))
        have lH : V.heap.size ≤ D1.heap.size := kb1.size
        clear bj
        generalize D1.alloc (.cells (wdc z24).toArray 33) = D2 at *
        generalize D1.heap.size = gH at *
        refine wpAnyH_ready (rs := [0]) (by kernel_rfl) (by simp) ?_
        refine AllReadyH.cons rfl (fun K hK => ?_) (AllReadyH.nil)
        go_simp
        go_at_call 20
        refine (q9.out _).mono ?_
        rintro e D3 ⟨rfl, bj⟩
        refine hK.out _ _ (kb2.trans (bj.mono kb2.size)) (fun hHeld => ?_)
        clear hK K
        try simp only [Act.put, List.setIfInBounds_toArray, List.set_cons_zero, List.set_cons_succ]
        have kb3 := kb2.trans (bj.mono kb2.size)
        replace B := hide_ (B.out.later bj)
        replace H := hide_ (H.out.later bj)
        clear bj
        refine wpAnyH_ready (rs := [4]) (by kernel_rfl) (by simp) ?_
        refine AllReadyH.cons rfl (fun K hK => ?_) (AllReadyH.nil)
        go_simp
        go_at_call 9
        refine (qL5.out _ _ (cubes2 B.out)).mono ?_
        rintro e D4 ⟨rfl, bj⟩
        refine hK.out _ _ (kb3.trans (bj.mono kb3.size)) (fun hHeld => ?_)
        clear hK K
        try simp only [Act.put, List.setIfInBounds_toArray, List.set_cons_zero, List.set_cons_succ]
        have kb4 := kb3.trans (bj.mono kb3.size)
        replace B := hide_ (B.out.later bj)
        replace H := hide_ (H.out.later bj)
        clear bj
        refine takeR (i := 5) (v := ?_) rfl (by kernel_rfl) (by kernel_rfl) (by kernel_rfl) (some 19) rfl (Or.inl ⟨by rfl, ?_⟩) (fun _ _ _ h => h) (by assumption) ?_
        rotate_left
        · intro w hSw; (try dsimp only at hSw); go_simp; (try with_reducible rfl)
        simp only [Act.put, List.setIfInBounds_toArray, List.set_cons_zero, List.set_cons_succ]
        refine takeR (i := 6) (v := ?_) rfl (by kernel_rfl) (by kernel_rfl) (by kernel_rfl) (some 25) rfl (Or.inl ⟨by rfl, ?_⟩) (fun _ _ _ h => h) (by assumption) ?_
        rotate_left
        · intro w hSw; (try dsimp only at hSw); go_simp; (try with_reducible rfl)
        simp only [Act.put, List.setIfInBounds_toArray, List.set_cons_zero, List.set_cons_succ]
        refine takeR (i := 7) (v := ?_) rfl (by kernel_rfl) (by kernel_rfl) (by kernel_rfl) (some 26) rfl (Or.inl ⟨by rfl, ?_⟩) (fun _ _ _ h => h) (by assumption) ?_
        rotate_left
        · intro w hSw; (try dsimp only at hSw); go_simp; (try with_reducible rfl)
        simp only [Act.put, List.setIfInBounds_toArray, List.set_cons_zero, List.set_cons_succ]
        refine takeR (i := 8) (v := ?_) rfl (by kernel_rfl) (by kernel_rfl) (by kernel_rfl) (some 27) rfl (Or.inl ⟨by rfl, ?_⟩) (fun _ _ _ h => h) (by assumption) ?_
        rotate_left
        · intro w hSw; (try dsimp only at hSw); go_simp; (try with_reducible rfl)
        simp only [Act.put, List.setIfInBounds_toArray, List.set_cons_zero, List.set_cons_succ]
        refine wpAnyH_ready (rs := [10]) (by kernel_rfl) (by simp) ?_
        refine AllReadyH.cons rfl (fun K hK => ?_) (AllReadyH.nil)
        refine wp_store_row 33 (.tmp 3) (.tmp 25) rfl gH (wdc h5).toArray rfl rfl 33 (wdc z24).toArray H.out (by simpa using szW lh5.out) (by simp only [List.size_toArray, wdc_length, lh5.out, z24_len]) (all_oneCell_toArray (wdc_one _)) ?_
        refine hK.out _ _ (kb4.trans (below_row D4 gH V.heap.size (wdc h5).toArray lH)) (fun hHeld => ?_)
        clear hK K
        try simp only [Act.put, List.setIfInBounds_toArray, List.set_cons_zero, List.set_cons_succ]
        have kb5 := kb4.trans (below_row D4 gH V.heap.size (wdc h5).toArray lH)
        replace B := hide_ (B.out.row_far (f := gH) (wdc h5).toArray (by omega))
        replace H := hide_ (H.out.row (cs' := wdc h5))
        generalize D4.setRow gH (wdc h5).toArray = D5 at *
        refine takeR (i := 11) (v := ?_) rfl (by kernel_rfl) (by kernel_rfl) (by kernel_rfl) (some 4) rfl (Or.inl ⟨by rfl, ?_⟩) (fun _ _ _ h => h) (by assumption) ?_
        rotate_left
        · intro w hSw; (try dsimp only at hSw); go_simp; (try with_reducible rfl)
        simp only [Act.put, List.setIfInBounds_toArray, List.set_cons_zero, List.set_cons_succ]
        refine takeR (i := 12) (v := ?_) rfl (by kernel_rfl) (by kernel_rfl) (by kernel_rfl) (some 5) rfl (Or.inl ⟨by rfl, ?_⟩) (fun _ _ _ h => h) (by assumption) ?_
        rotate_left
        · intro w hSw; (try dsimp only at hSw); go_simp; (try with_reducible rfl)
        simp only [Act.put, List.setIfInBounds_toArray, List.set_cons_zero, List.set_cons_succ]
        refine wpAnyH_done (by kernel_rfl) ?_ _
        go_wp2_with fail
        go_meet
        exact ⟨rfl, rfl, kb5⟩
    · go_simp
      refine hK.out _ _ (kb0.trans ((below1 D0 (.cells (wdc z24).toArray 33)).mono kb0.size)) (fun hHeld => ?_)
      clear hK K
      try simp only [Act.put, List.setIfInBounds_toArray, List.set_cons_zero, List.set_cons_succ]
      have bj := below1 D0 (.cells (wdc z24).toArray 33)
      have kb1 := kb0.trans (bj.mono kb0.size)
      have H : Hid (AB (D0.alloc (.cells (wdc z24).toArray 33)) D0.heap.size 33 (wdc z24)) := hide_ (by exact AB.at0 D0 33 (wdc z24))
      have lH : V.heap.size ≤ D0.heap.size := kb0.size
      clear bj
      generalize D0.alloc (.cells (wdc z24).toArray 33) = D1 at *
      generalize D0.heap.size = gH at *
      refine wpAnyH_ready (rs := [0, 3]) (by kernel_rfl) (by simp) ?_
      refine AllReadyH.cons rfl (fun K hK => ?_) (AllReadyH.cons rfl (fun K hK => ?_) (AllReadyH.nil))
      · go_simp
        go_at_call 20
        refine (q9.out _).mono ?_
        rintro e D2 ⟨rfl, bj⟩
        refine hK.out _ _ (kb1.trans (bj.mono kb1.size)) (fun hHeld => ?_)
        clear hK K
        try simp only [Act.put, List.setIfInBounds_toArray, List.set_cons_zero, List.set_cons_succ]
        have kb2 := kb1.trans (bj.mono kb1.size)
        replace H := hide_ (H.out.later bj)
        clear bj
        refine wpAnyH_ready (rs := [3]) (by kernel_rfl) (by simp) ?_
        refine AllReadyH.cons rfl (fun K hK => ?_) (AllReadyH.nil)
        refine wp_build2 29 28 (.tmp 21) (.tmp 22) rfl (tdc offQ) (tdc onQ) (.agg (tdc z24q).toArray) 96 768 (by first | rfl | simp [Act.eval, Act.put]) (by first | rfl | simp [Act.eval, Act.put]) Try.underlying29 infoC szCells (by rw [tdc_length, lo.out]) (by rw [tdc_length, ln.out]) (by decide) (by decide) ?_
        refine hK.out _ _ (kb2.trans ((below1 D2 (.cells (tdc offQ ++ tdc onQ).toArray 28)).mono kb2.size)) (fun hHeld => ?_)
        clear hK K
        try simp only [Act.put, List.setIfInBounds_toArray, List.set_cons_zero, List.set_cons_succ]
        have bj := below1 D2 (.cells (tdc offQ ++ tdc onQ).toArray 28)
        have kb3 := kb2.trans (bj.mono kb2.size)
        have nBH : D2.heap.size ≠ gH := by have := H.out.lt; omega
        replace H := hide_ (H.out.later bj)
        have B : Hid (AB (D2.alloc (.cells (tdc offQ ++ tdc onQ).toArray 28)) D2.heap.size 28 (tdc offQ ++ tdc onQ)) := hide_ (by exact AB.at0 D2 28 (tdc offQ ++ tdc onQ))
        have lB : V.heap.size ≤ D2.heap.size := kb2.size
        clear bj
        generalize D2.alloc (.cells (tdc offQ ++ tdc onQ).toArray 28) = D3 at *
        generalize D2.heap.size = gB at *
        refine wpAnyH_ready (rs := [4]) (by kernel_rfl) (by simp) ?_
        refine AllReadyH.cons rfl (fun K hK => ?_) (AllReadyH.nil)
        go_simp
        go_at_call 9
        refine (qL5.out _ _ (cubes2 B.out)).mono ?_
        rintro e D4 ⟨rfl, bj⟩
        refine hK.out _ _ (kb3.trans (bj.mono kb3.size)) (fun hHeld => ?_)
        clear hK K
        try simp only [Act.put, List.setIfInBounds_toArray, List.set_cons_zero, List.set_cons_succ]
        have kb4 := kb3.trans (bj.mono kb3.size)
        replace H := hide_ (H.out.later bj)
        replace B := hide_ (B.out.later bj)
        clear bj
        refine takeR (i := 5) (v := ?_) rfl (by kernel_rfl) (by kernel_rfl) (by kernel_rfl) (some 19) rfl (Or.inl ⟨by rfl, ?_⟩) (fun _ _ _ h => h) (by assumption) ?_
        rotate_left
        · intro w hSw; (try dsimp only at hSw); go_simp; (try with_reducible rfl)
        simp only [Act.put, List.setIfInBounds_toArray, List.set_cons_zero, List.set_cons_succ]
        refine takeR (i := 6) (v := ?_) rfl (by kernel_rfl) (by kernel_rfl) (by kernel_rfl) (some 25) rfl (Or.inl ⟨by rfl, ?_⟩) (fun _ _ _ h => h) (by assumption) ?_
        rotate_left
        · intro w hSw; (try dsimp only at hSw); go_simp; (try with_reducible rfl)
        simp only [Act.put, List.setIfInBounds_toArray, List.set_cons_zero, List.set_cons_succ]
        refine takeR (i := 7) (v := ?_) rfl (by kernel_rfl) (by kernel_rfl) (by kernel_rfl) (some 26) rfl (Or.inl ⟨by rfl, ?_⟩) (fun _ _ _ h => h) (by assumption) ?_
        rotate_left
        · intro w hSw; (try dsimp only at hSw); go_simp; (try with_reducible rfl)
        simp only [Act.put, List.setIfInBounds_toArray, List.set_cons_zero, List.set_cons_succ]
        refine takeR (i := 8) (v := ?_) rfl (by kernel_rfl) (by kernel_rfl) (by kernel_rfl) (some 27) rfl (Or.inl ⟨by rfl, ?_⟩) (fun _ _ _ h => h) (by assumption) ?_
        rotate_left
        · intro w hSw; (try dsimp only at hSw); go_simp; (try with_reducible rfl)
        simp only [Act.put, List.setIfInBounds_toArray, List.set_cons_zero, List.set_cons_succ]
        refine wpAnyH_ready (rs := [10]) (by kernel_rfl) (by simp) ?_
        refine AllReadyH.cons rfl (fun K hK => ?_) (AllReadyH.nil)
        refine wp_store_row 33 (.tmp 3) (.tmp 25) rfl gH (wdc h5).toArray rfl rfl 33 (wdc z24).toArray H.out (by simpa using szW lh5.out) (by simp only [List.size_toArray, wdc_length, lh5.out, z24_len]) (all_oneCell_toArray (wdc_one _)) ?_
        refine hK.out _ _ (kb4.trans (below_row D4 gH V.heap.size (wdc h5).toArray lH)) (fun hHeld => ?_)
        clear hK K
        try simp only [Act.put, List.setIfInBounds_toArray, List.set_cons_zero, List.set_cons_succ]
        have kb5 := kb4.trans (below_row D4 gH V.heap.size (wdc h5).toArray lH)
        replace B := hide_ (B.out.row_far (f := gH) (wdc h5).toArray (by omega))
        replace H := hide_ (H.out.row (cs' := wdc h5))
        generalize D4.setRow gH (wdc h5).toArray = D5 at *
        refine takeR (i := 11) (v := ?_) rfl (by kernel_rfl) (by kernel_rfl) (by kernel_rfl) (some 4) rfl (Or.inl ⟨by rfl, ?_⟩) (fun _ _ _ h => h) (by assumption) ?_
        rotate_left
        · intro w hSw; (try dsimp only at hSw); go_simp; (try with_reducible rfl)
        simp only [Act.put, List.setIfInBounds_toArray, List.set_cons_zero, List.set_cons_succ]
        refine takeR (i := 12) (v := ?_) rfl (by kernel_rfl) (by kernel_rfl) (by kernel_rfl) (some 5) rfl (Or.inl ⟨by rfl, ?_⟩) (fun _ _ _ h => h) (by assumption) ?_
        rotate_left
        · intro w hSw; (try dsimp only at hSw); go_simp; (try with_reducible rfl)
        simp only [Act.put, List.setIfInBounds_toArray, List.set_cons_zero, List.set_cons_succ]
        refine wpAnyH_done (by kernel_rfl) ?_ _
        go_wp2_with fail
        go_meet
        exact ⟨rfl, rfl, kb5⟩
      · refine wp_build2 29 28 (.tmp 21) (.tmp 22) rfl (tdc offQ) (tdc onQ) (.agg (tdc z24q).toArray) 96 768 (by first | rfl | simp [Act.eval, Act.put]) (by first | rfl | simp [Act.eval, Act.put]) Try.underlying29 infoC szCells (by rw [tdc_length, lo.out]) (by rw [tdc_length, ln.out]) (by decide) (by decide) ?_
        refine hK.out _ _ (kb1.trans ((below1 D1 (.cells (tdc offQ ++ tdc onQ).toArray 28)).mono kb1.size)) (fun hHeld => ?_)
        clear hK K
        try simp only [Act.put, List.setIfInBounds_toArray, List.set_cons_zero, List.set_cons_succ]
        have bj := below1 D1 (.cells (tdc offQ ++ tdc onQ).toArray 28)
        have kb2 := kb1.trans (bj.mono kb1.size)
        have nBH : D1.heap.size ≠ gH := by have := H.out.lt; omega
        replace H := hide_ (H.out.later bj)
        have B : Hid (AB (D1.alloc (.cells (tdc offQ ++ tdc onQ).toArray 28)) D1.heap.size 28 (tdc offQ ++ tdc onQ)) := hide_ (by exact AB.at0 D1 28 (tdc offQ ++ tdc onQ))
        have lB : V.heap.size ≤ D1.heap.size := kb1.size
        clear bj
        generalize D1.alloc (.cells (tdc offQ ++ tdc onQ).toArray 28) = D2 at *
        generalize D1.heap.size = gB at *
        refine wpAnyH_ready (rs := [0]) (by kernel_rfl) (by simp) ?_
        refine AllReadyH.cons rfl (fun K hK => ?_) (AllReadyH.nil)
        go_simp
        go_at_call 20
        refine (q9.out _).mono ?_
        rintro e D3 ⟨rfl, bj⟩
        refine hK.out _ _ (kb2.trans (bj.mono kb2.size)) (fun hHeld => ?_)
        clear hK K
        try simp only [Act.put, List.setIfInBounds_toArray, List.set_cons_zero, List.set_cons_succ]
        have kb3 := kb2.trans (bj.mono kb2.size)
        replace H := hide_ (H.out.later bj)
        replace B := hide_ (B.out.later bj)
        clear bj
        refine wpAnyH_ready (rs := [4]) (by kernel_rfl) (by simp) ?_
        refine AllReadyH.cons rfl (fun K hK => ?_) (AllReadyH.nil)
        go_simp
        go_at_call 9
        refine (qL5.out _ _ (cubes2 B.out)).mono ?_
        rintro e D4 ⟨rfl, bj⟩
        refine hK.out _ _ (kb3.trans (bj.mono kb3.size)) (fun hHeld => ?_)
        clear hK K
        try simp only [Act.put, List.setIfInBounds_toArray, List.set_cons_zero, List.set_cons_succ]
        have kb4 := kb3.trans (bj.mono kb3.size)
        replace H := hide_ (H.out.later bj)
        replace B := hide_ (B.out.later bj)
        clear bj
        refine takeR (i := 5) (v := ?_) rfl (by kernel_rfl) (by kernel_rfl) (by kernel_rfl) (some 19) rfl (Or.inl ⟨by rfl, ?_⟩) (fun _ _ _ h => h) (by assumption) ?_
        rotate_left
        · intro w hSw; (try dsimp only at hSw); go_simp; (try with_reducible rfl)
        simp only [Act.put, List.setIfInBounds_toArray, List.set_cons_zero, List.set_cons_succ]
        refine takeR (i := 6) (v := ?_) rfl (by kernel_rfl) (by kernel_rfl) (by kernel_rfl) (some 25) rfl (Or.inl ⟨by rfl, ?_⟩) (fun _ _ _ h => h) (by assumption) ?_
        rotate_left
        · intro w hSw; (try dsimp only at hSw); go_simp; (try with_reducible rfl)
        simp only [Act.put, List.setIfInBounds_toArray, List.set_cons_zero, List.set_cons_succ]
        refine takeR (i := 7) (v := ?_) rfl (by kernel_rfl) (by kernel_rfl) (by kernel_rfl) (some 26) rfl (Or.inl ⟨by rfl, ?_⟩) (fun _ _ _ h => h) (by assumption) ?_
        rotate_left
        · intro w hSw; (try dsimp only at hSw); go_simp; (try with_reducible rfl)
        simp only [Act.put, List.setIfInBounds_toArray, List.set_cons_zero, List.set_cons_succ]
        refine takeR (i := 8) (v := ?_) rfl (by kernel_rfl) (by kernel_rfl) (by kernel_rfl) (some 27) rfl (Or.inl ⟨by rfl, ?_⟩) (fun _ _ _ h => h) (by assumption) ?_
        rotate_left
        · intro w hSw; (try dsimp only at hSw); go_simp; (try with_reducible rfl)
        simp only [Act.put, List.setIfInBounds_toArray, List.set_cons_zero, List.set_cons_succ]
        refine wpAnyH_ready (rs := [10]) (by kernel_rfl) (by simp) ?_
        refine AllReadyH.cons rfl (fun K hK => ?_) (AllReadyH.nil)
        refine wp_store_row 33 (.tmp 3) (.tmp 25) rfl gH (wdc h5).toArray rfl rfl 33 (wdc z24).toArray H.out (by simpa using szW lh5.out) (by simp only [List.size_toArray, wdc_length, lh5.out, z24_len]) (all_oneCell_toArray (wdc_one _)) ?_
        refine hK.out _ _ (kb4.trans (below_row D4 gH V.heap.size (wdc h5).toArray lH)) (fun hHeld => ?_)
        clear hK K
        try simp only [Act.put, List.setIfInBounds_toArray, List.set_cons_zero, List.set_cons_succ]
        have kb5 := kb4.trans (below_row D4 gH V.heap.size (wdc h5).toArray lH)
        replace B := hide_ (B.out.row_far (f := gH) (wdc h5).toArray (by omega))
        replace H := hide_ (H.out.row (cs' := wdc h5))
        generalize D4.setRow gH (wdc h5).toArray = D5 at *
        refine takeR (i := 11) (v := ?_) rfl (by kernel_rfl) (by kernel_rfl) (by kernel_rfl) (some 4) rfl (Or.inl ⟨by rfl, ?_⟩) (fun _ _ _ h => h) (by assumption) ?_
        rotate_left
        · intro w hSw; (try dsimp only at hSw); go_simp; (try with_reducible rfl)
        simp only [Act.put, List.setIfInBounds_toArray, List.set_cons_zero, List.set_cons_succ]
        refine takeR (i := 12) (v := ?_) rfl (by kernel_rfl) (by kernel_rfl) (by kernel_rfl) (some 5) rfl (Or.inl ⟨by rfl, ?_⟩) (fun _ _ _ h => h) (by assumption) ?_
        rotate_left
        · intro w hSw; (try dsimp only at hSw); go_simp; (try with_reducible rfl)
        simp only [Act.put, List.setIfInBounds_toArray, List.set_cons_zero, List.set_cons_succ]
        refine wpAnyH_done (by kernel_rfl) ?_ _
        go_wp2_with fail
        go_meet
        exact ⟨rfl, rfl, kb5⟩
  case rest =>
    obtain ⟨rfl, rfl, k2⟩ := hcut
    replace A1 := hide_ (A1.out.later k2)
    replace A2 := hide_ (A2.out.later k2)
    replace BV := hide_ (BV.out.trans (k2.mono BV.out.size))
    clear k2
    generalize wc = V2 at *
    go_wp2_with fail
    go_cut [6, 7, 8] from 12 (fun s6 s7 s8 wx => ∃ gg, s6 = .pointer (some ⟨gg, 0, none⟩) ∧ s7 = .bool true ∧ s8 = .int .i64 0 ∧ wx.cell? ⟨gg, 1, none⟩ = some (.int .u64 1) ∧ Below V2.heap.size V2 wx)
    case first =>
      refine wp_region_held_drew (S := (fun w' => Below V2.heap.size V2 w')) (by kernel_rfl) ((Below.refl _ _).drew) (fun hHeld => ?_)
      have kb0 : Below V2.heap.size V2 V2.drew := (Below.refl _ _).drew
      generalize V2.drew = D0 at *
      refine takeL Try.underlying28 (i := 1) rfl (by kernel_rfl) (by kernel_rfl) (by kernel_rfl) (some 30) rfl (.tmp 1) rfl (by rfl) w.heap.size rfl (tdc offQ) (szC lo.out) (fun _ h => (A1.out.later h).range) (fun _ _ _ h => h) (by assumption) ?_
      simp only [Act.put, List.setIfInBounds_toArray, List.set_cons_zero, List.set_cons_succ]
      refine wpAnyH_ready (rs := [0, 2, 8]) (by kernel_rfl) (by simp) ?_
      refine AllReadyH.cons rfl (fun K hK => ?_) (AllReadyH.cons rfl (fun K hK => ?_) (AllReadyH.cons rfl (fun K hK => ?_) (AllReadyH.nil)))
      · go_simp
        go_at_call 20
        refine (q9.out _).mono ?_
        rintro e D1 ⟨rfl, bj⟩
        refine hK.out _ _ (kb0.trans (bj.mono kb0.size)) (fun hHeld => ?_)
        clear hK K
        try simp only [Act.put, List.setIfInBounds_toArray, List.set_cons_zero, List.set_cons_succ]
        have kb1 := kb0.trans (bj.mono kb0.size)
        clear bj
        refine wpAnyH_ready (rs := [2, 8]) (by kernel_rfl) (by simp) ?_
        refine AllReadyH.cons rfl (fun K hK => ?_) (AllReadyH.cons rfl (fun K hK => ?_) (AllReadyH.nil))
        · refine wp_build1 29 28 (.tmp 30) rfl (tdc offQ) (.agg (tdc z24q).toArray) 96 768 (by first | rfl | simp [Act.eval, Act.put]) Try.underlying29 infoC szCells (by rw [tdc_length, lo.out]) (by decide) (by decide) ?_
          refine hK.out _ _ (kb1.trans ((below1 D1 (.cells (tdc offQ).toArray 28)).mono kb1.size)) (fun hHeld => ?_)
          clear hK K
          try simp only [Act.put, List.setIfInBounds_toArray, List.set_cons_zero, List.set_cons_succ]
          have bj := below1 D1 (.cells (tdc offQ).toArray 28)
          have kb2 := kb1.trans (bj.mono kb1.size)
          have B : Hid (AB (D1.alloc (.cells (tdc offQ).toArray 28)) D1.heap.size 28 (tdc offQ)) := hide_ (by exact AB.at0 D1 28 (tdc offQ))
          have lB : V2.heap.size ≤ D1.heap.size := kb1.size
          clear bj
          generalize D1.alloc (.cells (tdc offQ).toArray 28) = D2 at *
          generalize D1.heap.size = gB at *
          refine wpAnyH_ready (rs := [3, 8]) (by kernel_rfl) (by simp) ?_
          refine AllReadyH.cons rfl (fun K hK => ?_) (AllReadyH.cons rfl (fun K hK => ?_) (AllReadyH.nil))
          · go_simp
            go_at_call 9
            refine (qL2.out _ _ (cubes1 B.out)).mono ?_
            rintro e D3 ⟨rfl, bj⟩
            refine hK.out _ _ (kb2.trans (bj.mono kb2.size)) (fun hHeld => ?_)
            clear hK K
            try simp only [Act.put, List.setIfInBounds_toArray, List.set_cons_zero, List.set_cons_succ]
            have kb3 := kb2.trans (bj.mono kb2.size)
            replace B := hide_ (B.out.later bj)
            clear bj
            refine takeR (i := 4) (v := ?_) rfl (by kernel_rfl) (by kernel_rfl) (by kernel_rfl) (some 28) rfl (Or.inl ⟨by rfl, ?_⟩) (fun _ _ _ h => h) (by assumption) ?_
            rotate_left
            · intro w hSw; (try dsimp only at hSw); go_simp; (try with_reducible rfl)
            simp only [Act.put, List.setIfInBounds_toArray, List.set_cons_zero, List.set_cons_succ]
            refine takeR (i := 5) (v := ?_) rfl (by kernel_rfl) (by kernel_rfl) (by kernel_rfl) (some 33) rfl (Or.inl ⟨by rfl, ?_⟩) (fun _ _ _ h => h) (by assumption) ?_
            rotate_left
            · intro w hSw; (try dsimp only at hSw); go_simp; (try with_reducible rfl)
            simp only [Act.put, List.setIfInBounds_toArray, List.set_cons_zero, List.set_cons_succ]
            refine takeR (i := 6) (v := ?_) rfl (by kernel_rfl) (by kernel_rfl) (by kernel_rfl) (some 34) rfl (Or.inl ⟨by rfl, ?_⟩) (fun _ _ _ h => h) (by assumption) ?_
            rotate_left
            · intro w hSw; (try dsimp only at hSw); go_simp; (try with_reducible rfl)
            simp only [Act.put, List.setIfInBounds_toArray, List.set_cons_zero, List.set_cons_succ]
            refine takeR (i := 7) (v := ?_) rfl (by kernel_rfl) (by kernel_rfl) (by kernel_rfl) (some 35) rfl (Or.inl ⟨by rfl, ?_⟩) (fun _ _ _ h => h) (by assumption) ?_
            rotate_left
            · intro w hSw; (try dsimp only at hSw); go_simp; (try with_reducible rfl)
            simp only [Act.put, List.setIfInBounds_toArray, List.set_cons_zero, List.set_cons_succ]
            refine wpAnyH_ready (rs := [8]) (by kernel_rfl) (by simp) ?_
            refine AllReadyH.cons rfl (fun K hK => ?_) (AllReadyH.nil)
            go_simp
            refine hK.out _ _ (kb3.trans ((below1 D3 (.cells (wdc z24).toArray 33)).mono kb3.size)) (fun hHeld => ?_)
            clear hK K
            try simp only [Act.put, List.setIfInBounds_toArray, List.set_cons_zero, List.set_cons_succ]
            have bj := below1 D3 (.cells (wdc z24).toArray 33)
            have kb4 := kb3.trans (bj.mono kb3.size)
            have nHB : D3.heap.size ≠ gB := by have := B.out.lt; omega
            replace B := hide_ (B.out.later bj)
            have H : Hid (AB (D3.alloc (.cells (wdc z24).toArray 33)) D3.heap.size 33 (wdc z24)) := hide_ (by exact AB.at0 D3 33 (wdc z24))
            have lH : V2.heap.size ≤ D3.heap.size := kb3.size
            clear bj
            generalize D3.alloc (.cells (wdc z24).toArray 33) = D4 at *
            generalize D3.heap.size = gH at *
            refine wpAnyH_ready (rs := [9]) (by kernel_rfl) (by simp) ?_
            refine AllReadyH.cons rfl (fun K hK => ?_) (AllReadyH.nil)
            refine wp_store_row 33 (.tmp 6) (.tmp 33) rfl gH (wdc h2).toArray rfl rfl 33 (wdc z24).toArray H.out (by simpa using szW lh2.out) (by simp only [List.size_toArray, wdc_length, lh2.out, z24_len]) (all_oneCell_toArray (wdc_one _)) ?_
            refine hK.out _ _ (kb4.trans (below_row D4 gH V2.heap.size (wdc h2).toArray lH)) (fun hHeld => ?_)
            clear hK K
            try simp only [Act.put, List.setIfInBounds_toArray, List.set_cons_zero, List.set_cons_succ]
            have kb5 := kb4.trans (below_row D4 gH V2.heap.size (wdc h2).toArray lH)
            replace B := hide_ (B.out.row_far (f := gH) (wdc h2).toArray (by omega))
            replace H := hide_ (H.out.row (cs' := wdc h2))
            generalize D4.setRow gH (wdc h2).toArray = D5 at *
            refine takeR (i := 10) (v := ?_) rfl (by kernel_rfl) (by kernel_rfl) (by kernel_rfl) (some 7) rfl (Or.inl ⟨by rfl, ?_⟩) (fun _ _ _ h => h) (by assumption) ?_
            rotate_left
            · intro w hSw; (try dsimp only at hSw); go_simp; (try with_reducible rfl)
            simp only [Act.put, List.setIfInBounds_toArray, List.set_cons_zero, List.set_cons_succ]
            refine takeR (i := 11) (v := ?_) rfl (by kernel_rfl) (by kernel_rfl) (by kernel_rfl) (some 8) rfl (Or.inl ⟨by rfl, ?_⟩) (fun _ _ _ h => h) (by assumption) ?_
            rotate_left
            · intro w hSw; (try dsimp only at hSw); go_simp; (try with_reducible rfl)
            simp only [Act.put, List.setIfInBounds_toArray, List.set_cons_zero, List.set_cons_succ]
            refine wpAnyH_done (by kernel_rfl) ?_ _
            go_wp2_with fail
            go_meet
            exact ⟨gH, rfl, rfl, rfl, (H.out.cell (j := 1) h2at.out).1, kb5⟩
          · go_simp
            refine hK.out _ _ (kb2.trans ((below1 D2 (.cells (wdc z24).toArray 33)).mono kb2.size)) (fun hHeld => ?_)
            clear hK K
            try simp only [Act.put, List.setIfInBounds_toArray, List.set_cons_zero, List.set_cons_succ]
            have bj := below1 D2 (.cells (wdc z24).toArray 33)
            have kb3 := kb2.trans (bj.mono kb2.size)
            have nHB : D2.heap.size ≠ gB := by have := B.out.lt; omega
            replace B := hide_ (B.out.later bj)
            have H : Hid (AB (D2.alloc (.cells (wdc z24).toArray 33)) D2.heap.size 33 (wdc z24)) := hide_ (by exact AB.at0 D2 33 (wdc z24))
            have lH : V2.heap.size ≤ D2.heap.size := kb2.size
            clear bj
            generalize D2.alloc (.cells (wdc z24).toArray 33) = D3 at *
            generalize D2.heap.size = gH at *
            refine wpAnyH_ready (rs := [3]) (by kernel_rfl) (by simp) ?_
            refine AllReadyH.cons rfl (fun K hK => ?_) (AllReadyH.nil)
            go_simp
            go_at_call 9
            refine (qL2.out _ _ (cubes1 B.out)).mono ?_
            rintro e D4 ⟨rfl, bj⟩
            refine hK.out _ _ (kb3.trans (bj.mono kb3.size)) (fun hHeld => ?_)
            clear hK K
            try simp only [Act.put, List.setIfInBounds_toArray, List.set_cons_zero, List.set_cons_succ]
            have kb4 := kb3.trans (bj.mono kb3.size)
            replace B := hide_ (B.out.later bj)
            replace H := hide_ (H.out.later bj)
            clear bj
            refine takeR (i := 4) (v := ?_) rfl (by kernel_rfl) (by kernel_rfl) (by kernel_rfl) (some 28) rfl (Or.inl ⟨by rfl, ?_⟩) (fun _ _ _ h => h) (by assumption) ?_
            rotate_left
            · intro w hSw; (try dsimp only at hSw); go_simp; (try with_reducible rfl)
            simp only [Act.put, List.setIfInBounds_toArray, List.set_cons_zero, List.set_cons_succ]
            refine takeR (i := 5) (v := ?_) rfl (by kernel_rfl) (by kernel_rfl) (by kernel_rfl) (some 33) rfl (Or.inl ⟨by rfl, ?_⟩) (fun _ _ _ h => h) (by assumption) ?_
            rotate_left
            · intro w hSw; (try dsimp only at hSw); go_simp; (try with_reducible rfl)
            simp only [Act.put, List.setIfInBounds_toArray, List.set_cons_zero, List.set_cons_succ]
            refine takeR (i := 6) (v := ?_) rfl (by kernel_rfl) (by kernel_rfl) (by kernel_rfl) (some 34) rfl (Or.inl ⟨by rfl, ?_⟩) (fun _ _ _ h => h) (by assumption) ?_
            rotate_left
            · intro w hSw; (try dsimp only at hSw); go_simp; (try with_reducible rfl)
            simp only [Act.put, List.setIfInBounds_toArray, List.set_cons_zero, List.set_cons_succ]
            refine takeR (i := 7) (v := ?_) rfl (by kernel_rfl) (by kernel_rfl) (by kernel_rfl) (some 35) rfl (Or.inl ⟨by rfl, ?_⟩) (fun _ _ _ h => h) (by assumption) ?_
            rotate_left
            · intro w hSw; (try dsimp only at hSw); go_simp; (try with_reducible rfl)
            simp only [Act.put, List.setIfInBounds_toArray, List.set_cons_zero, List.set_cons_succ]
            refine wpAnyH_ready (rs := [9]) (by kernel_rfl) (by simp) ?_
            refine AllReadyH.cons rfl (fun K hK => ?_) (AllReadyH.nil)
            refine wp_store_row 33 (.tmp 6) (.tmp 33) rfl gH (wdc h2).toArray rfl rfl 33 (wdc z24).toArray H.out (by simpa using szW lh2.out) (by simp only [List.size_toArray, wdc_length, lh2.out, z24_len]) (all_oneCell_toArray (wdc_one _)) ?_
            refine hK.out _ _ (kb4.trans (below_row D4 gH V2.heap.size (wdc h2).toArray lH)) (fun hHeld => ?_)
            clear hK K
            try simp only [Act.put, List.setIfInBounds_toArray, List.set_cons_zero, List.set_cons_succ]
            have kb5 := kb4.trans (below_row D4 gH V2.heap.size (wdc h2).toArray lH)
            replace B := hide_ (B.out.row_far (f := gH) (wdc h2).toArray (by omega))
            replace H := hide_ (H.out.row (cs' := wdc h2))
            generalize D4.setRow gH (wdc h2).toArray = D5 at *
            refine takeR (i := 10) (v := ?_) rfl (by kernel_rfl) (by kernel_rfl) (by kernel_rfl) (some 7) rfl (Or.inl ⟨by rfl, ?_⟩) (fun _ _ _ h => h) (by assumption) ?_
            rotate_left
            · intro w hSw; (try dsimp only at hSw); go_simp; (try with_reducible rfl)
            simp only [Act.put, List.setIfInBounds_toArray, List.set_cons_zero, List.set_cons_succ]
            refine takeR (i := 11) (v := ?_) rfl (by kernel_rfl) (by kernel_rfl) (by kernel_rfl) (some 8) rfl (Or.inl ⟨by rfl, ?_⟩) (fun _ _ _ h => h) (by assumption) ?_
            rotate_left
            · intro w hSw; (try dsimp only at hSw); go_simp; (try with_reducible rfl)
            simp only [Act.put, List.setIfInBounds_toArray, List.set_cons_zero, List.set_cons_succ]
            refine wpAnyH_done (by kernel_rfl) ?_ _
            go_wp2_with fail
            go_meet
            exact ⟨gH, rfl, rfl, rfl, (H.out.cell (j := 1) h2at.out).1, kb5⟩
        · go_simp
          refine hK.out _ _ (kb1.trans ((below1 D1 (.cells (wdc z24).toArray 33)).mono kb1.size)) (fun hHeld => ?_)
          clear hK K
          try simp only [Act.put, List.setIfInBounds_toArray, List.set_cons_zero, List.set_cons_succ]
          have bj := below1 D1 (.cells (wdc z24).toArray 33)
          have kb2 := kb1.trans (bj.mono kb1.size)
          have H : Hid (AB (D1.alloc (.cells (wdc z24).toArray 33)) D1.heap.size 33 (wdc z24)) := hide_ (by exact AB.at0 D1 33 (wdc z24))
          have lH : V2.heap.size ≤ D1.heap.size := kb1.size
          clear bj
          generalize D1.alloc (.cells (wdc z24).toArray 33) = D2 at *
          generalize D1.heap.size = gH at *
          refine wpAnyH_ready (rs := [2]) (by kernel_rfl) (by simp) ?_
          refine AllReadyH.cons rfl (fun K hK => ?_) (AllReadyH.nil)
          refine wp_build1 29 28 (.tmp 30) rfl (tdc offQ) (.agg (tdc z24q).toArray) 96 768 (by first | rfl | simp [Act.eval, Act.put]) Try.underlying29 infoC szCells (by rw [tdc_length, lo.out]) (by decide) (by decide) ?_
          refine hK.out _ _ (kb2.trans ((below1 D2 (.cells (tdc offQ).toArray 28)).mono kb2.size)) (fun hHeld => ?_)
          clear hK K
          try simp only [Act.put, List.setIfInBounds_toArray, List.set_cons_zero, List.set_cons_succ]
          have bj := below1 D2 (.cells (tdc offQ).toArray 28)
          have kb3 := kb2.trans (bj.mono kb2.size)
          have nBH : D2.heap.size ≠ gH := by have := H.out.lt; omega
          replace H := hide_ (H.out.later bj)
          have B : Hid (AB (D2.alloc (.cells (tdc offQ).toArray 28)) D2.heap.size 28 (tdc offQ)) := hide_ (by exact AB.at0 D2 28 (tdc offQ))
          have lB : V2.heap.size ≤ D2.heap.size := kb2.size
          clear bj
          generalize D2.alloc (.cells (tdc offQ).toArray 28) = D3 at *
          generalize D2.heap.size = gB at *
          refine wpAnyH_ready (rs := [3]) (by kernel_rfl) (by simp) ?_
          refine AllReadyH.cons rfl (fun K hK => ?_) (AllReadyH.nil)
          go_simp
          go_at_call 9
          refine (qL2.out _ _ (cubes1 B.out)).mono ?_
          rintro e D4 ⟨rfl, bj⟩
          refine hK.out _ _ (kb3.trans (bj.mono kb3.size)) (fun hHeld => ?_)
          clear hK K
          try simp only [Act.put, List.setIfInBounds_toArray, List.set_cons_zero, List.set_cons_succ]
          have kb4 := kb3.trans (bj.mono kb3.size)
          replace H := hide_ (H.out.later bj)
          replace B := hide_ (B.out.later bj)
          clear bj
          refine takeR (i := 4) (v := ?_) rfl (by kernel_rfl) (by kernel_rfl) (by kernel_rfl) (some 28) rfl (Or.inl ⟨by rfl, ?_⟩) (fun _ _ _ h => h) (by assumption) ?_
          rotate_left
          · intro w hSw; (try dsimp only at hSw); go_simp; (try with_reducible rfl)
          simp only [Act.put, List.setIfInBounds_toArray, List.set_cons_zero, List.set_cons_succ]
          refine takeR (i := 5) (v := ?_) rfl (by kernel_rfl) (by kernel_rfl) (by kernel_rfl) (some 33) rfl (Or.inl ⟨by rfl, ?_⟩) (fun _ _ _ h => h) (by assumption) ?_
          rotate_left
          · intro w hSw; (try dsimp only at hSw); go_simp; (try with_reducible rfl)
          simp only [Act.put, List.setIfInBounds_toArray, List.set_cons_zero, List.set_cons_succ]
          refine takeR (i := 6) (v := ?_) rfl (by kernel_rfl) (by kernel_rfl) (by kernel_rfl) (some 34) rfl (Or.inl ⟨by rfl, ?_⟩) (fun _ _ _ h => h) (by assumption) ?_
          rotate_left
          · intro w hSw; (try dsimp only at hSw); go_simp; (try with_reducible rfl)
          simp only [Act.put, List.setIfInBounds_toArray, List.set_cons_zero, List.set_cons_succ]
          refine takeR (i := 7) (v := ?_) rfl (by kernel_rfl) (by kernel_rfl) (by kernel_rfl) (some 35) rfl (Or.inl ⟨by rfl, ?_⟩) (fun _ _ _ h => h) (by assumption) ?_
          rotate_left
          · intro w hSw; (try dsimp only at hSw); go_simp; (try with_reducible rfl)
          simp only [Act.put, List.setIfInBounds_toArray, List.set_cons_zero, List.set_cons_succ]
          refine wpAnyH_ready (rs := [9]) (by kernel_rfl) (by simp) ?_
          refine AllReadyH.cons rfl (fun K hK => ?_) (AllReadyH.nil)
          refine wp_store_row 33 (.tmp 6) (.tmp 33) rfl gH (wdc h2).toArray rfl rfl 33 (wdc z24).toArray H.out (by simpa using szW lh2.out) (by simp only [List.size_toArray, wdc_length, lh2.out, z24_len]) (all_oneCell_toArray (wdc_one _)) ?_
          refine hK.out _ _ (kb4.trans (below_row D4 gH V2.heap.size (wdc h2).toArray lH)) (fun hHeld => ?_)
          clear hK K
          try simp only [Act.put, List.setIfInBounds_toArray, List.set_cons_zero, List.set_cons_succ]
          have kb5 := kb4.trans (below_row D4 gH V2.heap.size (wdc h2).toArray lH)
          replace B := hide_ (B.out.row_far (f := gH) (wdc h2).toArray (by omega))
          replace H := hide_ (H.out.row (cs' := wdc h2))
          generalize D4.setRow gH (wdc h2).toArray = D5 at *
          refine takeR (i := 10) (v := ?_) rfl (by kernel_rfl) (by kernel_rfl) (by kernel_rfl) (some 7) rfl (Or.inl ⟨by rfl, ?_⟩) (fun _ _ _ h => h) (by assumption) ?_
          rotate_left
          · intro w hSw; (try dsimp only at hSw); go_simp; (try with_reducible rfl)
          simp only [Act.put, List.setIfInBounds_toArray, List.set_cons_zero, List.set_cons_succ]
          refine takeR (i := 11) (v := ?_) rfl (by kernel_rfl) (by kernel_rfl) (by kernel_rfl) (some 8) rfl (Or.inl ⟨by rfl, ?_⟩) (fun _ _ _ h => h) (by assumption) ?_
          rotate_left
          · intro w hSw; (try dsimp only at hSw); go_simp; (try with_reducible rfl)
          simp only [Act.put, List.setIfInBounds_toArray, List.set_cons_zero, List.set_cons_succ]
          refine wpAnyH_done (by kernel_rfl) ?_ _
          go_wp2_with fail
          go_meet
          exact ⟨gH, rfl, rfl, rfl, (H.out.cell (j := 1) h2at.out).1, kb5⟩
      · refine wp_build1 29 28 (.tmp 30) rfl (tdc offQ) (.agg (tdc z24q).toArray) 96 768 (by first | rfl | simp [Act.eval, Act.put]) Try.underlying29 infoC szCells (by rw [tdc_length, lo.out]) (by decide) (by decide) ?_
        refine hK.out _ _ (kb0.trans ((below1 D0 (.cells (tdc offQ).toArray 28)).mono kb0.size)) (fun hHeld => ?_)
        clear hK K
        try simp only [Act.put, List.setIfInBounds_toArray, List.set_cons_zero, List.set_cons_succ]
        have bj := below1 D0 (.cells (tdc offQ).toArray 28)
        have kb1 := kb0.trans (bj.mono kb0.size)
        have B : Hid (AB (D0.alloc (.cells (tdc offQ).toArray 28)) D0.heap.size 28 (tdc offQ)) := hide_ (by exact AB.at0 D0 28 (tdc offQ))
        have lB : V2.heap.size ≤ D0.heap.size := kb0.size
        clear bj
        generalize D0.alloc (.cells (tdc offQ).toArray 28) = D1 at *
        generalize D0.heap.size = gB at *
        refine wpAnyH_ready (rs := [0, 8]) (by kernel_rfl) (by simp) ?_
        refine AllReadyH.cons rfl (fun K hK => ?_) (AllReadyH.cons rfl (fun K hK => ?_) (AllReadyH.nil))
        · go_simp
          go_at_call 20
          refine (q9.out _).mono ?_
          rintro e D2 ⟨rfl, bj⟩
          refine hK.out _ _ (kb1.trans (bj.mono kb1.size)) (fun hHeld => ?_)
          clear hK K
          try simp only [Act.put, List.setIfInBounds_toArray, List.set_cons_zero, List.set_cons_succ]
          have kb2 := kb1.trans (bj.mono kb1.size)
          replace B := hide_ (B.out.later bj)
          clear bj
          refine wpAnyH_ready (rs := [3, 8]) (by kernel_rfl) (by simp) ?_
          refine AllReadyH.cons rfl (fun K hK => ?_) (AllReadyH.cons rfl (fun K hK => ?_) (AllReadyH.nil))
          · go_simp
            go_at_call 9
            refine (qL2.out _ _ (cubes1 B.out)).mono ?_
            rintro e D3 ⟨rfl, bj⟩
            refine hK.out _ _ (kb2.trans (bj.mono kb2.size)) (fun hHeld => ?_)
            clear hK K
            try simp only [Act.put, List.setIfInBounds_toArray, List.set_cons_zero, List.set_cons_succ]
            have kb3 := kb2.trans (bj.mono kb2.size)
            replace B := hide_ (B.out.later bj)
            clear bj
            refine takeR (i := 4) (v := ?_) rfl (by kernel_rfl) (by kernel_rfl) (by kernel_rfl) (some 28) rfl (Or.inl ⟨by rfl, ?_⟩) (fun _ _ _ h => h) (by assumption) ?_
            rotate_left
            · intro w hSw; (try dsimp only at hSw); go_simp; (try with_reducible rfl)
            simp only [Act.put, List.setIfInBounds_toArray, List.set_cons_zero, List.set_cons_succ]
            refine takeR (i := 5) (v := ?_) rfl (by kernel_rfl) (by kernel_rfl) (by kernel_rfl) (some 33) rfl (Or.inl ⟨by rfl, ?_⟩) (fun _ _ _ h => h) (by assumption) ?_
            rotate_left
            · intro w hSw; (try dsimp only at hSw); go_simp; (try with_reducible rfl)
            simp only [Act.put, List.setIfInBounds_toArray, List.set_cons_zero, List.set_cons_succ]
            refine takeR (i := 6) (v := ?_) rfl (by kernel_rfl) (by kernel_rfl) (by kernel_rfl) (some 34) rfl (Or.inl ⟨by rfl, ?_⟩) (fun _ _ _ h => h) (by assumption) ?_
            rotate_left
            · intro w hSw; (try dsimp only at hSw); go_simp; (try with_reducible rfl)
            simp only [Act.put, List.setIfInBounds_toArray, List.set_cons_zero, List.set_cons_succ]
            refine takeR (i := 7) (v := ?_) rfl (by kernel_rfl) (by kernel_rfl) (by kernel_rfl) (some 35) rfl (Or.inl ⟨by rfl, ?_⟩) (fun _ _ _ h => h) (by assumption) ?_
            rotate_left
            · intro w hSw; (try dsimp only at hSw); go_simp; (try with_reducible rfl)
            simp only [Act.put, List.setIfInBounds_toArray, List.set_cons_zero, List.set_cons_succ]
            refine wpAnyH_ready (rs := [8]) (by kernel_rfl) (by simp) ?_
            refine AllReadyH.cons rfl (fun K hK => ?_) (AllReadyH.nil)
            go_simp
            refine hK.out _ _ (kb3.trans ((below1 D3 (.cells (wdc z24).toArray 33)).mono kb3.size)) (fun hHeld => ?_)
            clear hK K
            try simp only [Act.put, List.setIfInBounds_toArray, List.set_cons_zero, List.set_cons_succ]
            have bj := below1 D3 (.cells (wdc z24).toArray 33)
            have kb4 := kb3.trans (bj.mono kb3.size)
            have nHB : D3.heap.size ≠ gB := by have := B.out.lt; omega
            replace B := hide_ (B.out.later bj)
            have H : Hid (AB (D3.alloc (.cells (wdc z24).toArray 33)) D3.heap.size 33 (wdc z24)) := hide_ (by exact AB.at0 D3 33 (wdc z24))
            have lH : V2.heap.size ≤ D3.heap.size := kb3.size
            clear bj
            generalize D3.alloc (.cells (wdc z24).toArray 33) = D4 at *
            generalize D3.heap.size = gH at *
            refine wpAnyH_ready (rs := [9]) (by kernel_rfl) (by simp) ?_
            refine AllReadyH.cons rfl (fun K hK => ?_) (AllReadyH.nil)
            refine wp_store_row 33 (.tmp 6) (.tmp 33) rfl gH (wdc h2).toArray rfl rfl 33 (wdc z24).toArray H.out (by simpa using szW lh2.out) (by simp only [List.size_toArray, wdc_length, lh2.out, z24_len]) (all_oneCell_toArray (wdc_one _)) ?_
            refine hK.out _ _ (kb4.trans (below_row D4 gH V2.heap.size (wdc h2).toArray lH)) (fun hHeld => ?_)
            clear hK K
            try simp only [Act.put, List.setIfInBounds_toArray, List.set_cons_zero, List.set_cons_succ]
            have kb5 := kb4.trans (below_row D4 gH V2.heap.size (wdc h2).toArray lH)
            replace B := hide_ (B.out.row_far (f := gH) (wdc h2).toArray (by omega))
            replace H := hide_ (H.out.row (cs' := wdc h2))
            generalize D4.setRow gH (wdc h2).toArray = D5 at *
            refine takeR (i := 10) (v := ?_) rfl (by kernel_rfl) (by kernel_rfl) (by kernel_rfl) (some 7) rfl (Or.inl ⟨by rfl, ?_⟩) (fun _ _ _ h => h) (by assumption) ?_
            rotate_left
            · intro w hSw; (try dsimp only at hSw); go_simp; (try with_reducible rfl)
            simp only [Act.put, List.setIfInBounds_toArray, List.set_cons_zero, List.set_cons_succ]
            refine takeR (i := 11) (v := ?_) rfl (by kernel_rfl) (by kernel_rfl) (by kernel_rfl) (some 8) rfl (Or.inl ⟨by rfl, ?_⟩) (fun _ _ _ h => h) (by assumption) ?_
            rotate_left
            · intro w hSw; (try dsimp only at hSw); go_simp; (try with_reducible rfl)
            simp only [Act.put, List.setIfInBounds_toArray, List.set_cons_zero, List.set_cons_succ]
            refine wpAnyH_done (by kernel_rfl) ?_ _
            go_wp2_with fail
            go_meet
            exact ⟨gH, rfl, rfl, rfl, (H.out.cell (j := 1) h2at.out).1, kb5⟩
          · go_simp
            refine hK.out _ _ (kb2.trans ((below1 D2 (.cells (wdc z24).toArray 33)).mono kb2.size)) (fun hHeld => ?_)
            clear hK K
            try simp only [Act.put, List.setIfInBounds_toArray, List.set_cons_zero, List.set_cons_succ]
            have bj := below1 D2 (.cells (wdc z24).toArray 33)
            have kb3 := kb2.trans (bj.mono kb2.size)
            have nHB : D2.heap.size ≠ gB := by have := B.out.lt; omega
            replace B := hide_ (B.out.later bj)
            have H : Hid (AB (D2.alloc (.cells (wdc z24).toArray 33)) D2.heap.size 33 (wdc z24)) := hide_ (by exact AB.at0 D2 33 (wdc z24))
            have lH : V2.heap.size ≤ D2.heap.size := kb2.size
            clear bj
            generalize D2.alloc (.cells (wdc z24).toArray 33) = D3 at *
            generalize D2.heap.size = gH at *
            refine wpAnyH_ready (rs := [3]) (by kernel_rfl) (by simp) ?_
            refine AllReadyH.cons rfl (fun K hK => ?_) (AllReadyH.nil)
            go_simp
            go_at_call 9
            refine (qL2.out _ _ (cubes1 B.out)).mono ?_
            rintro e D4 ⟨rfl, bj⟩
            refine hK.out _ _ (kb3.trans (bj.mono kb3.size)) (fun hHeld => ?_)
            clear hK K
            try simp only [Act.put, List.setIfInBounds_toArray, List.set_cons_zero, List.set_cons_succ]
            have kb4 := kb3.trans (bj.mono kb3.size)
            replace B := hide_ (B.out.later bj)
            replace H := hide_ (H.out.later bj)
            clear bj
            refine takeR (i := 4) (v := ?_) rfl (by kernel_rfl) (by kernel_rfl) (by kernel_rfl) (some 28) rfl (Or.inl ⟨by rfl, ?_⟩) (fun _ _ _ h => h) (by assumption) ?_
            rotate_left
            · intro w hSw; (try dsimp only at hSw); go_simp; (try with_reducible rfl)
            simp only [Act.put, List.setIfInBounds_toArray, List.set_cons_zero, List.set_cons_succ]
            refine takeR (i := 5) (v := ?_) rfl (by kernel_rfl) (by kernel_rfl) (by kernel_rfl) (some 33) rfl (Or.inl ⟨by rfl, ?_⟩) (fun _ _ _ h => h) (by assumption) ?_
            rotate_left
            · intro w hSw; (try dsimp only at hSw); go_simp; (try with_reducible rfl)
            simp only [Act.put, List.setIfInBounds_toArray, List.set_cons_zero, List.set_cons_succ]
            refine takeR (i := 6) (v := ?_) rfl (by kernel_rfl) (by kernel_rfl) (by kernel_rfl) (some 34) rfl (Or.inl ⟨by rfl, ?_⟩) (fun _ _ _ h => h) (by assumption) ?_
            rotate_left
            · intro w hSw; (try dsimp only at hSw); go_simp; (try with_reducible rfl)
            simp only [Act.put, List.setIfInBounds_toArray, List.set_cons_zero, List.set_cons_succ]
            refine takeR (i := 7) (v := ?_) rfl (by kernel_rfl) (by kernel_rfl) (by kernel_rfl) (some 35) rfl (Or.inl ⟨by rfl, ?_⟩) (fun _ _ _ h => h) (by assumption) ?_
            rotate_left
            · intro w hSw; (try dsimp only at hSw); go_simp; (try with_reducible rfl)
            simp only [Act.put, List.setIfInBounds_toArray, List.set_cons_zero, List.set_cons_succ]
            refine wpAnyH_ready (rs := [9]) (by kernel_rfl) (by simp) ?_
            refine AllReadyH.cons rfl (fun K hK => ?_) (AllReadyH.nil)
            refine wp_store_row 33 (.tmp 6) (.tmp 33) rfl gH (wdc h2).toArray rfl rfl 33 (wdc z24).toArray H.out (by simpa using szW lh2.out) (by simp only [List.size_toArray, wdc_length, lh2.out, z24_len]) (all_oneCell_toArray (wdc_one _)) ?_
            refine hK.out _ _ (kb4.trans (below_row D4 gH V2.heap.size (wdc h2).toArray lH)) (fun hHeld => ?_)
            clear hK K
            try simp only [Act.put, List.setIfInBounds_toArray, List.set_cons_zero, List.set_cons_succ]
            have kb5 := kb4.trans (below_row D4 gH V2.heap.size (wdc h2).toArray lH)
            replace B := hide_ (B.out.row_far (f := gH) (wdc h2).toArray (by omega))
            replace H := hide_ (H.out.row (cs' := wdc h2))
            generalize D4.setRow gH (wdc h2).toArray = D5 at *
            refine takeR (i := 10) (v := ?_) rfl (by kernel_rfl) (by kernel_rfl) (by kernel_rfl) (some 7) rfl (Or.inl ⟨by rfl, ?_⟩) (fun _ _ _ h => h) (by assumption) ?_
            rotate_left
            · intro w hSw; (try dsimp only at hSw); go_simp; (try with_reducible rfl)
            simp only [Act.put, List.setIfInBounds_toArray, List.set_cons_zero, List.set_cons_succ]
            refine takeR (i := 11) (v := ?_) rfl (by kernel_rfl) (by kernel_rfl) (by kernel_rfl) (some 8) rfl (Or.inl ⟨by rfl, ?_⟩) (fun _ _ _ h => h) (by assumption) ?_
            rotate_left
            · intro w hSw; (try dsimp only at hSw); go_simp; (try with_reducible rfl)
            simp only [Act.put, List.setIfInBounds_toArray, List.set_cons_zero, List.set_cons_succ]
            refine wpAnyH_done (by kernel_rfl) ?_ _
            go_wp2_with fail
            go_meet
            exact ⟨gH, rfl, rfl, rfl, (H.out.cell (j := 1) h2at.out).1, kb5⟩
        · go_simp
          refine hK.out _ _ (kb1.trans ((below1 D1 (.cells (wdc z24).toArray 33)).mono kb1.size)) (fun hHeld => ?_)
          clear hK K
          try simp only [Act.put, List.setIfInBounds_toArray, List.set_cons_zero, List.set_cons_succ]
          have bj := below1 D1 (.cells (wdc z24).toArray 33)
          have kb2 := kb1.trans (bj.mono kb1.size)
          have nHB : D1.heap.size ≠ gB := by have := B.out.lt; omega
          replace B := hide_ (B.out.later bj)
          have H : Hid (AB (D1.alloc (.cells (wdc z24).toArray 33)) D1.heap.size 33 (wdc z24)) := hide_ (by exact AB.at0 D1 33 (wdc z24))
          have lH : V2.heap.size ≤ D1.heap.size := kb1.size
          clear bj
          generalize D1.alloc (.cells (wdc z24).toArray 33) = D2 at *
          generalize D1.heap.size = gH at *
          refine wpAnyH_ready (rs := [0]) (by kernel_rfl) (by simp) ?_
          refine AllReadyH.cons rfl (fun K hK => ?_) (AllReadyH.nil)
          go_simp
          go_at_call 20
          refine (q9.out _).mono ?_
          rintro e D3 ⟨rfl, bj⟩
          refine hK.out _ _ (kb2.trans (bj.mono kb2.size)) (fun hHeld => ?_)
          clear hK K
          try simp only [Act.put, List.setIfInBounds_toArray, List.set_cons_zero, List.set_cons_succ]
          have kb3 := kb2.trans (bj.mono kb2.size)
          replace B := hide_ (B.out.later bj)
          replace H := hide_ (H.out.later bj)
          clear bj
          refine wpAnyH_ready (rs := [3]) (by kernel_rfl) (by simp) ?_
          refine AllReadyH.cons rfl (fun K hK => ?_) (AllReadyH.nil)
          go_simp
          go_at_call 9
          refine (qL2.out _ _ (cubes1 B.out)).mono ?_
          rintro e D4 ⟨rfl, bj⟩
          refine hK.out _ _ (kb3.trans (bj.mono kb3.size)) (fun hHeld => ?_)
          clear hK K
          try simp only [Act.put, List.setIfInBounds_toArray, List.set_cons_zero, List.set_cons_succ]
          have kb4 := kb3.trans (bj.mono kb3.size)
          replace B := hide_ (B.out.later bj)
          replace H := hide_ (H.out.later bj)
          clear bj
          refine takeR (i := 4) (v := ?_) rfl (by kernel_rfl) (by kernel_rfl) (by kernel_rfl) (some 28) rfl (Or.inl ⟨by rfl, ?_⟩) (fun _ _ _ h => h) (by assumption) ?_
          rotate_left
          · intro w hSw; (try dsimp only at hSw); go_simp; (try with_reducible rfl)
          simp only [Act.put, List.setIfInBounds_toArray, List.set_cons_zero, List.set_cons_succ]
          refine takeR (i := 5) (v := ?_) rfl (by kernel_rfl) (by kernel_rfl) (by kernel_rfl) (some 33) rfl (Or.inl ⟨by rfl, ?_⟩) (fun _ _ _ h => h) (by assumption) ?_
          rotate_left
          · intro w hSw; (try dsimp only at hSw); go_simp; (try with_reducible rfl)
          simp only [Act.put, List.setIfInBounds_toArray, List.set_cons_zero, List.set_cons_succ]
          refine takeR (i := 6) (v := ?_) rfl (by kernel_rfl) (by kernel_rfl) (by kernel_rfl) (some 34) rfl (Or.inl ⟨by rfl, ?_⟩) (fun _ _ _ h => h) (by assumption) ?_
          rotate_left
          · intro w hSw; (try dsimp only at hSw); go_simp; (try with_reducible rfl)
          simp only [Act.put, List.setIfInBounds_toArray, List.set_cons_zero, List.set_cons_succ]
          refine takeR (i := 7) (v := ?_) rfl (by kernel_rfl) (by kernel_rfl) (by kernel_rfl) (some 35) rfl (Or.inl ⟨by rfl, ?_⟩) (fun _ _ _ h => h) (by assumption) ?_
          rotate_left
          · intro w hSw; (try dsimp only at hSw); go_simp; (try with_reducible rfl)
          simp only [Act.put, List.setIfInBounds_toArray, List.set_cons_zero, List.set_cons_succ]
          refine wpAnyH_ready (rs := [9]) (by kernel_rfl) (by simp) ?_
          refine AllReadyH.cons rfl (fun K hK => ?_) (AllReadyH.nil)
          refine wp_store_row 33 (.tmp 6) (.tmp 33) rfl gH (wdc h2).toArray rfl rfl 33 (wdc z24).toArray H.out (by simpa using szW lh2.out) (by simp only [List.size_toArray, wdc_length, lh2.out, z24_len]) (all_oneCell_toArray (wdc_one _)) ?_
          refine hK.out _ _ (kb4.trans (below_row D4 gH V2.heap.size (wdc h2).toArray lH)) (fun hHeld => ?_)
          clear hK K
          try simp only [Act.put, List.setIfInBounds_toArray, List.set_cons_zero, List.set_cons_succ]
          have kb5 := kb4.trans (below_row D4 gH V2.heap.size (wdc h2).toArray lH)
          replace B := hide_ (B.out.row_far (f := gH) (wdc h2).toArray (by omega))
          replace H := hide_ (H.out.row (cs' := wdc h2))
          generalize D4.setRow gH (wdc h2).toArray = D5 at *
          refine takeR (i := 10) (v := ?_) rfl (by kernel_rfl) (by kernel_rfl) (by kernel_rfl) (some 7) rfl (Or.inl ⟨by rfl, ?_⟩) (fun _ _ _ h => h) (by assumption) ?_
          rotate_left
          · intro w hSw; (try dsimp only at hSw); go_simp; (try with_reducible rfl)
          simp only [Act.put, List.setIfInBounds_toArray, List.set_cons_zero, List.set_cons_succ]
          refine takeR (i := 11) (v := ?_) rfl (by kernel_rfl) (by kernel_rfl) (by kernel_rfl) (some 8) rfl (Or.inl ⟨by rfl, ?_⟩) (fun _ _ _ h => h) (by assumption) ?_
          rotate_left
          · intro w hSw; (try dsimp only at hSw); go_simp; (try with_reducible rfl)
          simp only [Act.put, List.setIfInBounds_toArray, List.set_cons_zero, List.set_cons_succ]
          refine wpAnyH_done (by kernel_rfl) ?_ _
          go_wp2_with fail
          go_meet
          exact ⟨gH, rfl, rfl, rfl, (H.out.cell (j := 1) h2at.out).1, kb5⟩
      · go_simp
        refine hK.out _ _ (kb0.trans ((below1 D0 (.cells (wdc z24).toArray 33)).mono kb0.size)) (fun hHeld => ?_)
        clear hK K
        try simp only [Act.put, List.setIfInBounds_toArray, List.set_cons_zero, List.set_cons_succ]
        have bj := below1 D0 (.cells (wdc z24).toArray 33)
        have kb1 := kb0.trans (bj.mono kb0.size)
        have H : Hid (AB (D0.alloc (.cells (wdc z24).toArray 33)) D0.heap.size 33 (wdc z24)) := hide_ (by exact AB.at0 D0 33 (wdc z24))
        have lH : V2.heap.size ≤ D0.heap.size := kb0.size
        clear bj
        generalize D0.alloc (.cells (wdc z24).toArray 33) = D1 at *
        generalize D0.heap.size = gH at *
        refine wpAnyH_ready (rs := [0, 2]) (by kernel_rfl) (by simp) ?_
        refine AllReadyH.cons rfl (fun K hK => ?_) (AllReadyH.cons rfl (fun K hK => ?_) (AllReadyH.nil))
        · go_simp
          go_at_call 20
          refine (q9.out _).mono ?_
          rintro e D2 ⟨rfl, bj⟩
          refine hK.out _ _ (kb1.trans (bj.mono kb1.size)) (fun hHeld => ?_)
          clear hK K
          try simp only [Act.put, List.setIfInBounds_toArray, List.set_cons_zero, List.set_cons_succ]
          have kb2 := kb1.trans (bj.mono kb1.size)
          replace H := hide_ (H.out.later bj)
          clear bj
          refine wpAnyH_ready (rs := [2]) (by kernel_rfl) (by simp) ?_
          refine AllReadyH.cons rfl (fun K hK => ?_) (AllReadyH.nil)
          refine wp_build1 29 28 (.tmp 30) rfl (tdc offQ) (.agg (tdc z24q).toArray) 96 768 (by first | rfl | simp [Act.eval, Act.put]) Try.underlying29 infoC szCells (by rw [tdc_length, lo.out]) (by decide) (by decide) ?_
          refine hK.out _ _ (kb2.trans ((below1 D2 (.cells (tdc offQ).toArray 28)).mono kb2.size)) (fun hHeld => ?_)
          clear hK K
          try simp only [Act.put, List.setIfInBounds_toArray, List.set_cons_zero, List.set_cons_succ]
          have bj := below1 D2 (.cells (tdc offQ).toArray 28)
          have kb3 := kb2.trans (bj.mono kb2.size)
          have nBH : D2.heap.size ≠ gH := by have := H.out.lt; omega
          replace H := hide_ (H.out.later bj)
          have B : Hid (AB (D2.alloc (.cells (tdc offQ).toArray 28)) D2.heap.size 28 (tdc offQ)) := hide_ (by exact AB.at0 D2 28 (tdc offQ))
          have lB : V2.heap.size ≤ D2.heap.size := kb2.size
          clear bj
          generalize D2.alloc (.cells (tdc offQ).toArray 28) = D3 at *
          generalize D2.heap.size = gB at *
          refine wpAnyH_ready (rs := [3]) (by kernel_rfl) (by simp) ?_
          refine AllReadyH.cons rfl (fun K hK => ?_) (AllReadyH.nil)
          go_simp
          go_at_call 9
          refine (qL2.out _ _ (cubes1 B.out)).mono ?_
          rintro e D4 ⟨rfl, bj⟩
          refine hK.out _ _ (kb3.trans (bj.mono kb3.size)) (fun hHeld => ?_)
          clear hK K
          try simp only [Act.put, List.setIfInBounds_toArray, List.set_cons_zero, List.set_cons_succ]
          have kb4 := kb3.trans (bj.mono kb3.size)
          replace H := hide_ (H.out.later bj)
          replace B := hide_ (B.out.later bj)
          clear bj
          refine takeR (i := 4) (v := ?_) rfl (by kernel_rfl) (by kernel_rfl) (by kernel_rfl) (some 28) rfl (Or.inl ⟨by rfl, ?_⟩) (fun _ _ _ h => h) (by assumption) ?_
          rotate_left
          · intro w hSw; (try dsimp only at hSw); go_simp; (try with_reducible rfl)
          simp only [Act.put, List.setIfInBounds_toArray, List.set_cons_zero, List.set_cons_succ]
          refine takeR (i := 5) (v := ?_) rfl (by kernel_rfl) (by kernel_rfl) (by kernel_rfl) (some 33) rfl (Or.inl ⟨by rfl, ?_⟩) (fun _ _ _ h => h) (by assumption) ?_
          rotate_left
          · intro w hSw; (try dsimp only at hSw); go_simp; (try with_reducible rfl)
          simp only [Act.put, List.setIfInBounds_toArray, List.set_cons_zero, List.set_cons_succ]
          refine takeR (i := 6) (v := ?_) rfl (by kernel_rfl) (by kernel_rfl) (by kernel_rfl) (some 34) rfl (Or.inl ⟨by rfl, ?_⟩) (fun _ _ _ h => h) (by assumption) ?_
          rotate_left
          · intro w hSw; (try dsimp only at hSw); go_simp; (try with_reducible rfl)
          simp only [Act.put, List.setIfInBounds_toArray, List.set_cons_zero, List.set_cons_succ]
          refine takeR (i := 7) (v := ?_) rfl (by kernel_rfl) (by kernel_rfl) (by kernel_rfl) (some 35) rfl (Or.inl ⟨by rfl, ?_⟩) (fun _ _ _ h => h) (by assumption) ?_
          rotate_left
          · intro w hSw; (try dsimp only at hSw); go_simp; (try with_reducible rfl)
          simp only [Act.put, List.setIfInBounds_toArray, List.set_cons_zero, List.set_cons_succ]
          refine wpAnyH_ready (rs := [9]) (by kernel_rfl) (by simp) ?_
          refine AllReadyH.cons rfl (fun K hK => ?_) (AllReadyH.nil)
          refine wp_store_row 33 (.tmp 6) (.tmp 33) rfl gH (wdc h2).toArray rfl rfl 33 (wdc z24).toArray H.out (by simpa using szW lh2.out) (by simp only [List.size_toArray, wdc_length, lh2.out, z24_len]) (all_oneCell_toArray (wdc_one _)) ?_
          refine hK.out _ _ (kb4.trans (below_row D4 gH V2.heap.size (wdc h2).toArray lH)) (fun hHeld => ?_)
          clear hK K
          try simp only [Act.put, List.setIfInBounds_toArray, List.set_cons_zero, List.set_cons_succ]
          have kb5 := kb4.trans (below_row D4 gH V2.heap.size (wdc h2).toArray lH)
          replace B := hide_ (B.out.row_far (f := gH) (wdc h2).toArray (by omega))
          replace H := hide_ (H.out.row (cs' := wdc h2))
          generalize D4.setRow gH (wdc h2).toArray = D5 at *
          refine takeR (i := 10) (v := ?_) rfl (by kernel_rfl) (by kernel_rfl) (by kernel_rfl) (some 7) rfl (Or.inl ⟨by rfl, ?_⟩) (fun _ _ _ h => h) (by assumption) ?_
          rotate_left
          · intro w hSw; (try dsimp only at hSw); go_simp; (try with_reducible rfl)
          simp only [Act.put, List.setIfInBounds_toArray, List.set_cons_zero, List.set_cons_succ]
          refine takeR (i := 11) (v := ?_) rfl (by kernel_rfl) (by kernel_rfl) (by kernel_rfl) (some 8) rfl (Or.inl ⟨by rfl, ?_⟩) (fun _ _ _ h => h) (by assumption) ?_
          rotate_left
          · intro w hSw; (try dsimp only at hSw); go_simp; (try with_reducible rfl)
          simp only [Act.put, List.setIfInBounds_toArray, List.set_cons_zero, List.set_cons_succ]
          refine wpAnyH_done (by kernel_rfl) ?_ _
          go_wp2_with fail
          go_meet
          exact ⟨gH, rfl, rfl, rfl, (H.out.cell (j := 1) h2at.out).1, kb5⟩
        · refine wp_build1 29 28 (.tmp 30) rfl (tdc offQ) (.agg (tdc z24q).toArray) 96 768 (by first | rfl | simp [Act.eval, Act.put]) Try.underlying29 infoC szCells (by rw [tdc_length, lo.out]) (by decide) (by decide) ?_
          refine hK.out _ _ (kb1.trans ((below1 D1 (.cells (tdc offQ).toArray 28)).mono kb1.size)) (fun hHeld => ?_)
          clear hK K
          try simp only [Act.put, List.setIfInBounds_toArray, List.set_cons_zero, List.set_cons_succ]
          have bj := below1 D1 (.cells (tdc offQ).toArray 28)
          have kb2 := kb1.trans (bj.mono kb1.size)
          have nBH : D1.heap.size ≠ gH := by have := H.out.lt; omega
          replace H := hide_ (H.out.later bj)
          have B : Hid (AB (D1.alloc (.cells (tdc offQ).toArray 28)) D1.heap.size 28 (tdc offQ)) := hide_ (by exact AB.at0 D1 28 (tdc offQ))
          have lB : V2.heap.size ≤ D1.heap.size := kb1.size
          clear bj
          generalize D1.alloc (.cells (tdc offQ).toArray 28) = D2 at *
          generalize D1.heap.size = gB at *
          refine wpAnyH_ready (rs := [0]) (by kernel_rfl) (by simp) ?_
          refine AllReadyH.cons rfl (fun K hK => ?_) (AllReadyH.nil)
          go_simp
          go_at_call 20
          refine (q9.out _).mono ?_
          rintro e D3 ⟨rfl, bj⟩
          refine hK.out _ _ (kb2.trans (bj.mono kb2.size)) (fun hHeld => ?_)
          clear hK K
          try simp only [Act.put, List.setIfInBounds_toArray, List.set_cons_zero, List.set_cons_succ]
          have kb3 := kb2.trans (bj.mono kb2.size)
          replace H := hide_ (H.out.later bj)
          replace B := hide_ (B.out.later bj)
          clear bj
          refine wpAnyH_ready (rs := [3]) (by kernel_rfl) (by simp) ?_
          refine AllReadyH.cons rfl (fun K hK => ?_) (AllReadyH.nil)
          go_simp
          go_at_call 9
          refine (qL2.out _ _ (cubes1 B.out)).mono ?_
          rintro e D4 ⟨rfl, bj⟩
          refine hK.out _ _ (kb3.trans (bj.mono kb3.size)) (fun hHeld => ?_)
          clear hK K
          try simp only [Act.put, List.setIfInBounds_toArray, List.set_cons_zero, List.set_cons_succ]
          have kb4 := kb3.trans (bj.mono kb3.size)
          replace H := hide_ (H.out.later bj)
          replace B := hide_ (B.out.later bj)
          clear bj
          refine takeR (i := 4) (v := ?_) rfl (by kernel_rfl) (by kernel_rfl) (by kernel_rfl) (some 28) rfl (Or.inl ⟨by rfl, ?_⟩) (fun _ _ _ h => h) (by assumption) ?_
          rotate_left
          · intro w hSw; (try dsimp only at hSw); go_simp; (try with_reducible rfl)
          simp only [Act.put, List.setIfInBounds_toArray, List.set_cons_zero, List.set_cons_succ]
          refine takeR (i := 5) (v := ?_) rfl (by kernel_rfl) (by kernel_rfl) (by kernel_rfl) (some 33) rfl (Or.inl ⟨by rfl, ?_⟩) (fun _ _ _ h => h) (by assumption) ?_
          rotate_left
          · intro w hSw; (try dsimp only at hSw); go_simp; (try with_reducible rfl)
          simp only [Act.put, List.setIfInBounds_toArray, List.set_cons_zero, List.set_cons_succ]
          refine takeR (i := 6) (v := ?_) rfl (by kernel_rfl) (by kernel_rfl) (by kernel_rfl) (some 34) rfl (Or.inl ⟨by rfl, ?_⟩) (fun _ _ _ h => h) (by assumption) ?_
          rotate_left
          · intro w hSw; (try dsimp only at hSw); go_simp; (try with_reducible rfl)
          simp only [Act.put, List.setIfInBounds_toArray, List.set_cons_zero, List.set_cons_succ]
          refine takeR (i := 7) (v := ?_) rfl (by kernel_rfl) (by kernel_rfl) (by kernel_rfl) (some 35) rfl (Or.inl ⟨by rfl, ?_⟩) (fun _ _ _ h => h) (by assumption) ?_
          rotate_left
          · intro w hSw; (try dsimp only at hSw); go_simp; (try with_reducible rfl)
          simp only [Act.put, List.setIfInBounds_toArray, List.set_cons_zero, List.set_cons_succ]
          refine wpAnyH_ready (rs := [9]) (by kernel_rfl) (by simp) ?_
          refine AllReadyH.cons rfl (fun K hK => ?_) (AllReadyH.nil)
          refine wp_store_row 33 (.tmp 6) (.tmp 33) rfl gH (wdc h2).toArray rfl rfl 33 (wdc z24).toArray H.out (by simpa using szW lh2.out) (by simp only [List.size_toArray, wdc_length, lh2.out, z24_len]) (all_oneCell_toArray (wdc_one _)) ?_
          refine hK.out _ _ (kb4.trans (below_row D4 gH V2.heap.size (wdc h2).toArray lH)) (fun hHeld => ?_)
          clear hK K
          try simp only [Act.put, List.setIfInBounds_toArray, List.set_cons_zero, List.set_cons_succ]
          have kb5 := kb4.trans (below_row D4 gH V2.heap.size (wdc h2).toArray lH)
          replace B := hide_ (B.out.row_far (f := gH) (wdc h2).toArray (by omega))
          replace H := hide_ (H.out.row (cs' := wdc h2))
          generalize D4.setRow gH (wdc h2).toArray = D5 at *
          refine takeR (i := 10) (v := ?_) rfl (by kernel_rfl) (by kernel_rfl) (by kernel_rfl) (some 7) rfl (Or.inl ⟨by rfl, ?_⟩) (fun _ _ _ h => h) (by assumption) ?_
          rotate_left
          · intro w hSw; (try dsimp only at hSw); go_simp; (try with_reducible rfl)
          simp only [Act.put, List.setIfInBounds_toArray, List.set_cons_zero, List.set_cons_succ]
          refine takeR (i := 11) (v := ?_) rfl (by kernel_rfl) (by kernel_rfl) (by kernel_rfl) (some 8) rfl (Or.inl ⟨by rfl, ?_⟩) (fun _ _ _ h => h) (by assumption) ?_
          rotate_left
          · intro w hSw; (try dsimp only at hSw); go_simp; (try with_reducible rfl)
          simp only [Act.put, List.setIfInBounds_toArray, List.set_cons_zero, List.set_cons_succ]
          refine wpAnyH_done (by kernel_rfl) ?_ _
          go_wp2_with fail
          go_meet
          exact ⟨gH, rfl, rfl, rfl, (H.out.cell (j := 1) h2at.out).1, kb5⟩
    case rest =>
      obtain ⟨gg, rfl, rfl, rfl, hcell, k3⟩ := hcut
      replace A1 := hide_ (A1.out.later k3)
      replace A2 := hide_ (A2.out.later k3)
      replace BV := hide_ (BV.out.trans (k3.mono BV.out.size))
      clear k3
      generalize wc = V3 at *
      go_wp2_with fail
      go_cut [11] from 12 (fun s11 wx => s11 = .int .i64 5 ∧ Below V3.heap.size V3 wx)
      case first =>
        refine wp_region_held_drew (S := (fun w' => Below V3.heap.size V3 w')) (by kernel_rfl) ((Below.refl _ _).drew) (fun hHeld => ?_)
        have kb0 : Below V3.heap.size V3 V3.drew := (Below.refl _ _).drew
        generalize V3.drew = D0 at *
        refine takeL Try.underlying28 (i := 1) rfl (by kernel_rfl) (by kernel_rfl) (by kernel_rfl) (some 38) rfl (.tmp 1) rfl (by rfl) w.heap.size rfl (tdc offQ) (szC lo.out) (fun _ h => (A1.out.later h).range) (fun _ _ _ h => h) (by assumption) ?_
        simp only [Act.put, List.setIfInBounds_toArray, List.set_cons_zero, List.set_cons_succ]
        refine wpAnyH_ready (rs := [0, 2, 8]) (by kernel_rfl) (by simp) ?_
        refine AllReadyH.cons rfl (fun K hK => ?_) (AllReadyH.cons rfl (fun K hK => ?_) (AllReadyH.cons rfl (fun K hK => ?_) (AllReadyH.nil)))
        · go_simp
          go_at_call 20
          refine (q9.out _).mono ?_
          rintro e D1 ⟨rfl, bj⟩
          refine hK.out _ _ (kb0.trans (bj.mono kb0.size)) (fun hHeld => ?_)
          clear hK K
          try simp only [Act.put, List.setIfInBounds_toArray, List.set_cons_zero, List.set_cons_succ]
          have kb1 := kb0.trans (bj.mono kb0.size)
          clear bj
          refine wpAnyH_ready (rs := [2, 8]) (by kernel_rfl) (by simp) ?_
          refine AllReadyH.cons rfl (fun K hK => ?_) (AllReadyH.cons rfl (fun K hK => ?_) (AllReadyH.nil))
          · refine wp_build1 29 28 (.tmp 38) rfl (tdc offQ) (.agg (tdc z24q).toArray) 96 768 (by first | rfl | simp [Act.eval, Act.put]) Try.underlying29 infoC szCells (by rw [tdc_length, lo.out]) (by decide) (by decide) ?_
            refine hK.out _ _ (kb1.trans ((below1 D1 (.cells (tdc offQ).toArray 28)).mono kb1.size)) (fun hHeld => ?_)
            clear hK K
            try simp only [Act.put, List.setIfInBounds_toArray, List.set_cons_zero, List.set_cons_succ]
            have bj := below1 D1 (.cells (tdc offQ).toArray 28)
            have kb2 := kb1.trans (bj.mono kb1.size)
            have B : Hid (AB (D1.alloc (.cells (tdc offQ).toArray 28)) D1.heap.size 28 (tdc offQ)) := hide_ (by exact AB.at0 D1 28 (tdc offQ))
            have lB : V3.heap.size ≤ D1.heap.size := kb1.size
            clear bj
            generalize D1.alloc (.cells (tdc offQ).toArray 28) = D2 at *
            generalize D1.heap.size = gB at *
            refine wpAnyH_ready (rs := [3, 8]) (by kernel_rfl) (by simp) ?_
            refine AllReadyH.cons rfl (fun K hK => ?_) (AllReadyH.cons rfl (fun K hK => ?_) (AllReadyH.nil))
            · go_simp
              go_at_call 9
              refine (qL1.out _ _ (cubes1 B.out)).mono ?_
              rintro e D3 ⟨rfl, bj⟩
              refine hK.out _ _ (kb2.trans (bj.mono kb2.size)) (fun hHeld => ?_)
              clear hK K
              try simp only [Act.put, List.setIfInBounds_toArray, List.set_cons_zero, List.set_cons_succ]
              have kb3 := kb2.trans (bj.mono kb2.size)
              replace B := hide_ (B.out.later bj)
              clear bj
              refine takeR (i := 4) (v := ?_) rfl (by kernel_rfl) (by kernel_rfl) (by kernel_rfl) (some 36) rfl (Or.inl ⟨by rfl, ?_⟩) (fun _ _ _ h => h) (by assumption) ?_
              rotate_left
              · intro w hSw; (try dsimp only at hSw); go_simp; (try with_reducible rfl)
              simp only [Act.put, List.setIfInBounds_toArray, List.set_cons_zero, List.set_cons_succ]
              refine takeR (i := 5) (v := ?_) rfl (by kernel_rfl) (by kernel_rfl) (by kernel_rfl) (some 41) rfl (Or.inl ⟨by rfl, ?_⟩) (fun _ _ _ h => h) (by assumption) ?_
              rotate_left
              · intro w hSw; (try dsimp only at hSw); go_simp; (try with_reducible rfl)
              simp only [Act.put, List.setIfInBounds_toArray, List.set_cons_zero, List.set_cons_succ]
              refine takeR (i := 6) (v := ?_) rfl (by kernel_rfl) (by kernel_rfl) (by kernel_rfl) (some 42) rfl (Or.inl ⟨by rfl, ?_⟩) (fun _ _ _ h => h) (by assumption) ?_
              rotate_left
              · intro w hSw; (try dsimp only at hSw); go_simp; (try with_reducible rfl)
              simp only [Act.put, List.setIfInBounds_toArray, List.set_cons_zero, List.set_cons_succ]
              refine takeR (i := 7) (v := ?_) rfl (by kernel_rfl) (by kernel_rfl) (by kernel_rfl) (some 43) rfl (Or.inl ⟨by rfl, ?_⟩) (fun _ _ _ h => h) (by assumption) ?_
              rotate_left
              · intro w hSw; (try dsimp only at hSw); go_simp; (try with_reducible rfl)
              simp only [Act.put, List.setIfInBounds_toArray, List.set_cons_zero, List.set_cons_succ]
              refine wpAnyH_ready (rs := [8]) (by kernel_rfl) (by simp) ?_
              refine AllReadyH.cons rfl (fun K hK => ?_) (AllReadyH.nil)
              go_simp
              refine hK.out _ _ (kb3.trans ((below1 D3 (.cells (wdc z24).toArray 33)).mono kb3.size)) (fun hHeld => ?_)
              clear hK K
              try simp only [Act.put, List.setIfInBounds_toArray, List.set_cons_zero, List.set_cons_succ]
              have bj := below1 D3 (.cells (wdc z24).toArray 33)
              have kb4 := kb3.trans (bj.mono kb3.size)
              have nHB : D3.heap.size ≠ gB := by have := B.out.lt; omega
              replace B := hide_ (B.out.later bj)
              have H : Hid (AB (D3.alloc (.cells (wdc z24).toArray 33)) D3.heap.size 33 (wdc z24)) := hide_ (by exact AB.at0 D3 33 (wdc z24))
              have lH : V3.heap.size ≤ D3.heap.size := kb3.size
              clear bj
              generalize D3.alloc (.cells (wdc z24).toArray 33) = D4 at *
              generalize D3.heap.size = gH at *
              refine wpAnyH_ready (rs := [9]) (by kernel_rfl) (by simp) ?_
              refine AllReadyH.cons rfl (fun K hK => ?_) (AllReadyH.nil)
              refine wp_store_row 33 (.tmp 9) (.tmp 41) rfl gH (wdc h1).toArray rfl rfl 33 (wdc z24).toArray H.out (by simpa using szW lh1.out) (by simp only [List.size_toArray, wdc_length, lh1.out, z24_len]) (all_oneCell_toArray (wdc_one _)) ?_
              refine hK.out _ _ (kb4.trans (below_row D4 gH V3.heap.size (wdc h1).toArray lH)) (fun hHeld => ?_)
              clear hK K
              try simp only [Act.put, List.setIfInBounds_toArray, List.set_cons_zero, List.set_cons_succ]
              have kb5 := kb4.trans (below_row D4 gH V3.heap.size (wdc h1).toArray lH)
              replace B := hide_ (B.out.row_far (f := gH) (wdc h1).toArray (by omega))
              replace H := hide_ (H.out.row (cs' := wdc h1))
              generalize D4.setRow gH (wdc h1).toArray = D5 at *
              refine takeR (i := 10) (v := ?_) rfl (by kernel_rfl) (by kernel_rfl) (by kernel_rfl) (some 10) rfl (Or.inl ⟨by rfl, ?_⟩) (fun _ _ _ h => h) (by assumption) ?_
              rotate_left
              · intro w hSw; (try dsimp only at hSw); go_simp; (try with_reducible rfl)
              simp only [Act.put, List.setIfInBounds_toArray, List.set_cons_zero, List.set_cons_succ]
              refine takeR (i := 11) (v := ?_) rfl (by kernel_rfl) (by kernel_rfl) (by kernel_rfl) (some 11) rfl (Or.inl ⟨by rfl, ?_⟩) (fun _ _ _ h => h) (by assumption) ?_
              rotate_left
              · intro w hSw; (try dsimp only at hSw); go_simp; (try with_reducible rfl)
              simp only [Act.put, List.setIfInBounds_toArray, List.set_cons_zero, List.set_cons_succ]
              refine wpAnyH_done (by kernel_rfl) ?_ _
              go_wp2_with fail
              go_meet
              exact ⟨rfl, kb5⟩
            · go_simp
              refine hK.out _ _ (kb2.trans ((below1 D2 (.cells (wdc z24).toArray 33)).mono kb2.size)) (fun hHeld => ?_)
              clear hK K
              try simp only [Act.put, List.setIfInBounds_toArray, List.set_cons_zero, List.set_cons_succ]
              have bj := below1 D2 (.cells (wdc z24).toArray 33)
              have kb3 := kb2.trans (bj.mono kb2.size)
              have nHB : D2.heap.size ≠ gB := by have := B.out.lt; omega
              replace B := hide_ (B.out.later bj)
              have H : Hid (AB (D2.alloc (.cells (wdc z24).toArray 33)) D2.heap.size 33 (wdc z24)) := hide_ (by exact AB.at0 D2 33 (wdc z24))
              have lH : V3.heap.size ≤ D2.heap.size := kb2.size
              clear bj
              generalize D2.alloc (.cells (wdc z24).toArray 33) = D3 at *
              generalize D2.heap.size = gH at *
              refine wpAnyH_ready (rs := [3]) (by kernel_rfl) (by simp) ?_
              refine AllReadyH.cons rfl (fun K hK => ?_) (AllReadyH.nil)
              go_simp
              go_at_call 9
              refine (qL1.out _ _ (cubes1 B.out)).mono ?_
              rintro e D4 ⟨rfl, bj⟩
              refine hK.out _ _ (kb3.trans (bj.mono kb3.size)) (fun hHeld => ?_)
              clear hK K
              try simp only [Act.put, List.setIfInBounds_toArray, List.set_cons_zero, List.set_cons_succ]
              have kb4 := kb3.trans (bj.mono kb3.size)
              replace B := hide_ (B.out.later bj)
              replace H := hide_ (H.out.later bj)
              clear bj
              refine takeR (i := 4) (v := ?_) rfl (by kernel_rfl) (by kernel_rfl) (by kernel_rfl) (some 36) rfl (Or.inl ⟨by rfl, ?_⟩) (fun _ _ _ h => h) (by assumption) ?_
              rotate_left
              · intro w hSw; (try dsimp only at hSw); go_simp; (try with_reducible rfl)
              simp only [Act.put, List.setIfInBounds_toArray, List.set_cons_zero, List.set_cons_succ]
              refine takeR (i := 5) (v := ?_) rfl (by kernel_rfl) (by kernel_rfl) (by kernel_rfl) (some 41) rfl (Or.inl ⟨by rfl, ?_⟩) (fun _ _ _ h => h) (by assumption) ?_
              rotate_left
              · intro w hSw; (try dsimp only at hSw); go_simp; (try with_reducible rfl)
              simp only [Act.put, List.setIfInBounds_toArray, List.set_cons_zero, List.set_cons_succ]
              refine takeR (i := 6) (v := ?_) rfl (by kernel_rfl) (by kernel_rfl) (by kernel_rfl) (some 42) rfl (Or.inl ⟨by rfl, ?_⟩) (fun _ _ _ h => h) (by assumption) ?_
              rotate_left
              · intro w hSw; (try dsimp only at hSw); go_simp; (try with_reducible rfl)
              simp only [Act.put, List.setIfInBounds_toArray, List.set_cons_zero, List.set_cons_succ]
              refine takeR (i := 7) (v := ?_) rfl (by kernel_rfl) (by kernel_rfl) (by kernel_rfl) (some 43) rfl (Or.inl ⟨by rfl, ?_⟩) (fun _ _ _ h => h) (by assumption) ?_
              rotate_left
              · intro w hSw; (try dsimp only at hSw); go_simp; (try with_reducible rfl)
              simp only [Act.put, List.setIfInBounds_toArray, List.set_cons_zero, List.set_cons_succ]
              refine wpAnyH_ready (rs := [9]) (by kernel_rfl) (by simp) ?_
              refine AllReadyH.cons rfl (fun K hK => ?_) (AllReadyH.nil)
              refine wp_store_row 33 (.tmp 9) (.tmp 41) rfl gH (wdc h1).toArray rfl rfl 33 (wdc z24).toArray H.out (by simpa using szW lh1.out) (by simp only [List.size_toArray, wdc_length, lh1.out, z24_len]) (all_oneCell_toArray (wdc_one _)) ?_
              refine hK.out _ _ (kb4.trans (below_row D4 gH V3.heap.size (wdc h1).toArray lH)) (fun hHeld => ?_)
              clear hK K
              try simp only [Act.put, List.setIfInBounds_toArray, List.set_cons_zero, List.set_cons_succ]
              have kb5 := kb4.trans (below_row D4 gH V3.heap.size (wdc h1).toArray lH)
              replace B := hide_ (B.out.row_far (f := gH) (wdc h1).toArray (by omega))
              replace H := hide_ (H.out.row (cs' := wdc h1))
              generalize D4.setRow gH (wdc h1).toArray = D5 at *
              refine takeR (i := 10) (v := ?_) rfl (by kernel_rfl) (by kernel_rfl) (by kernel_rfl) (some 10) rfl (Or.inl ⟨by rfl, ?_⟩) (fun _ _ _ h => h) (by assumption) ?_
              rotate_left
              · intro w hSw; (try dsimp only at hSw); go_simp; (try with_reducible rfl)
              simp only [Act.put, List.setIfInBounds_toArray, List.set_cons_zero, List.set_cons_succ]
              refine takeR (i := 11) (v := ?_) rfl (by kernel_rfl) (by kernel_rfl) (by kernel_rfl) (some 11) rfl (Or.inl ⟨by rfl, ?_⟩) (fun _ _ _ h => h) (by assumption) ?_
              rotate_left
              · intro w hSw; (try dsimp only at hSw); go_simp; (try with_reducible rfl)
              simp only [Act.put, List.setIfInBounds_toArray, List.set_cons_zero, List.set_cons_succ]
              refine wpAnyH_done (by kernel_rfl) ?_ _
              go_wp2_with fail
              go_meet
              exact ⟨rfl, kb5⟩
          · go_simp
            refine hK.out _ _ (kb1.trans ((below1 D1 (.cells (wdc z24).toArray 33)).mono kb1.size)) (fun hHeld => ?_)
            clear hK K
            try simp only [Act.put, List.setIfInBounds_toArray, List.set_cons_zero, List.set_cons_succ]
            have bj := below1 D1 (.cells (wdc z24).toArray 33)
            have kb2 := kb1.trans (bj.mono kb1.size)
            have H : Hid (AB (D1.alloc (.cells (wdc z24).toArray 33)) D1.heap.size 33 (wdc z24)) := hide_ (by exact AB.at0 D1 33 (wdc z24))
            have lH : V3.heap.size ≤ D1.heap.size := kb1.size
            clear bj
            generalize D1.alloc (.cells (wdc z24).toArray 33) = D2 at *
            generalize D1.heap.size = gH at *
            refine wpAnyH_ready (rs := [2]) (by kernel_rfl) (by simp) ?_
            refine AllReadyH.cons rfl (fun K hK => ?_) (AllReadyH.nil)
            refine wp_build1 29 28 (.tmp 38) rfl (tdc offQ) (.agg (tdc z24q).toArray) 96 768 (by first | rfl | simp [Act.eval, Act.put]) Try.underlying29 infoC szCells (by rw [tdc_length, lo.out]) (by decide) (by decide) ?_
            refine hK.out _ _ (kb2.trans ((below1 D2 (.cells (tdc offQ).toArray 28)).mono kb2.size)) (fun hHeld => ?_)
            clear hK K
            try simp only [Act.put, List.setIfInBounds_toArray, List.set_cons_zero, List.set_cons_succ]
            have bj := below1 D2 (.cells (tdc offQ).toArray 28)
            have kb3 := kb2.trans (bj.mono kb2.size)
            have nBH : D2.heap.size ≠ gH := by have := H.out.lt; omega
            replace H := hide_ (H.out.later bj)
            have B : Hid (AB (D2.alloc (.cells (tdc offQ).toArray 28)) D2.heap.size 28 (tdc offQ)) := hide_ (by exact AB.at0 D2 28 (tdc offQ))
            have lB : V3.heap.size ≤ D2.heap.size := kb2.size
            clear bj
            generalize D2.alloc (.cells (tdc offQ).toArray 28) = D3 at *
            generalize D2.heap.size = gB at *
            refine wpAnyH_ready (rs := [3]) (by kernel_rfl) (by simp) ?_
            refine AllReadyH.cons rfl (fun K hK => ?_) (AllReadyH.nil)
            go_simp
            go_at_call 9
            refine (qL1.out _ _ (cubes1 B.out)).mono ?_
            rintro e D4 ⟨rfl, bj⟩
            refine hK.out _ _ (kb3.trans (bj.mono kb3.size)) (fun hHeld => ?_)
            clear hK K
            try simp only [Act.put, List.setIfInBounds_toArray, List.set_cons_zero, List.set_cons_succ]
            have kb4 := kb3.trans (bj.mono kb3.size)
            replace H := hide_ (H.out.later bj)
            replace B := hide_ (B.out.later bj)
            clear bj
            refine takeR (i := 4) (v := ?_) rfl (by kernel_rfl) (by kernel_rfl) (by kernel_rfl) (some 36) rfl (Or.inl ⟨by rfl, ?_⟩) (fun _ _ _ h => h) (by assumption) ?_
            rotate_left
            · intro w hSw; (try dsimp only at hSw); go_simp; (try with_reducible rfl)
            simp only [Act.put, List.setIfInBounds_toArray, List.set_cons_zero, List.set_cons_succ]
            refine takeR (i := 5) (v := ?_) rfl (by kernel_rfl) (by kernel_rfl) (by kernel_rfl) (some 41) rfl (Or.inl ⟨by rfl, ?_⟩) (fun _ _ _ h => h) (by assumption) ?_
            rotate_left
            · intro w hSw; (try dsimp only at hSw); go_simp; (try with_reducible rfl)
            simp only [Act.put, List.setIfInBounds_toArray, List.set_cons_zero, List.set_cons_succ]
            refine takeR (i := 6) (v := ?_) rfl (by kernel_rfl) (by kernel_rfl) (by kernel_rfl) (some 42) rfl (Or.inl ⟨by rfl, ?_⟩) (fun _ _ _ h => h) (by assumption) ?_
            rotate_left
            · intro w hSw; (try dsimp only at hSw); go_simp; (try with_reducible rfl)
            simp only [Act.put, List.setIfInBounds_toArray, List.set_cons_zero, List.set_cons_succ]
            refine takeR (i := 7) (v := ?_) rfl (by kernel_rfl) (by kernel_rfl) (by kernel_rfl) (some 43) rfl (Or.inl ⟨by rfl, ?_⟩) (fun _ _ _ h => h) (by assumption) ?_
            rotate_left
            · intro w hSw; (try dsimp only at hSw); go_simp; (try with_reducible rfl)
            simp only [Act.put, List.setIfInBounds_toArray, List.set_cons_zero, List.set_cons_succ]
            refine wpAnyH_ready (rs := [9]) (by kernel_rfl) (by simp) ?_
            refine AllReadyH.cons rfl (fun K hK => ?_) (AllReadyH.nil)
            refine wp_store_row 33 (.tmp 9) (.tmp 41) rfl gH (wdc h1).toArray rfl rfl 33 (wdc z24).toArray H.out (by simpa using szW lh1.out) (by simp only [List.size_toArray, wdc_length, lh1.out, z24_len]) (all_oneCell_toArray (wdc_one _)) ?_
            refine hK.out _ _ (kb4.trans (below_row D4 gH V3.heap.size (wdc h1).toArray lH)) (fun hHeld => ?_)
            clear hK K
            try simp only [Act.put, List.setIfInBounds_toArray, List.set_cons_zero, List.set_cons_succ]
            have kb5 := kb4.trans (below_row D4 gH V3.heap.size (wdc h1).toArray lH)
            replace B := hide_ (B.out.row_far (f := gH) (wdc h1).toArray (by omega))
            replace H := hide_ (H.out.row (cs' := wdc h1))
            generalize D4.setRow gH (wdc h1).toArray = D5 at *
            refine takeR (i := 10) (v := ?_) rfl (by kernel_rfl) (by kernel_rfl) (by kernel_rfl) (some 10) rfl (Or.inl ⟨by rfl, ?_⟩) (fun _ _ _ h => h) (by assumption) ?_
            rotate_left
            · intro w hSw; (try dsimp only at hSw); go_simp; (try with_reducible rfl)
            simp only [Act.put, List.setIfInBounds_toArray, List.set_cons_zero, List.set_cons_succ]
            refine takeR (i := 11) (v := ?_) rfl (by kernel_rfl) (by kernel_rfl) (by kernel_rfl) (some 11) rfl (Or.inl ⟨by rfl, ?_⟩) (fun _ _ _ h => h) (by assumption) ?_
            rotate_left
            · intro w hSw; (try dsimp only at hSw); go_simp; (try with_reducible rfl)
            simp only [Act.put, List.setIfInBounds_toArray, List.set_cons_zero, List.set_cons_succ]
            refine wpAnyH_done (by kernel_rfl) ?_ _
            go_wp2_with fail
            go_meet
            exact ⟨rfl, kb5⟩
        · refine wp_build1 29 28 (.tmp 38) rfl (tdc offQ) (.agg (tdc z24q).toArray) 96 768 (by first | rfl | simp [Act.eval, Act.put]) Try.underlying29 infoC szCells (by rw [tdc_length, lo.out]) (by decide) (by decide) ?_
          refine hK.out _ _ (kb0.trans ((below1 D0 (.cells (tdc offQ).toArray 28)).mono kb0.size)) (fun hHeld => ?_)
          clear hK K
          try simp only [Act.put, List.setIfInBounds_toArray, List.set_cons_zero, List.set_cons_succ]
          have bj := below1 D0 (.cells (tdc offQ).toArray 28)
          have kb1 := kb0.trans (bj.mono kb0.size)
          have B : Hid (AB (D0.alloc (.cells (tdc offQ).toArray 28)) D0.heap.size 28 (tdc offQ)) := hide_ (by exact AB.at0 D0 28 (tdc offQ))
          have lB : V3.heap.size ≤ D0.heap.size := kb0.size
          clear bj
          generalize D0.alloc (.cells (tdc offQ).toArray 28) = D1 at *
          generalize D0.heap.size = gB at *
          refine wpAnyH_ready (rs := [0, 8]) (by kernel_rfl) (by simp) ?_
          refine AllReadyH.cons rfl (fun K hK => ?_) (AllReadyH.cons rfl (fun K hK => ?_) (AllReadyH.nil))
          · go_simp
            go_at_call 20
            refine (q9.out _).mono ?_
            rintro e D2 ⟨rfl, bj⟩
            refine hK.out _ _ (kb1.trans (bj.mono kb1.size)) (fun hHeld => ?_)
            clear hK K
            try simp only [Act.put, List.setIfInBounds_toArray, List.set_cons_zero, List.set_cons_succ]
            have kb2 := kb1.trans (bj.mono kb1.size)
            replace B := hide_ (B.out.later bj)
            clear bj
            refine wpAnyH_ready (rs := [3, 8]) (by kernel_rfl) (by simp) ?_
            refine AllReadyH.cons rfl (fun K hK => ?_) (AllReadyH.cons rfl (fun K hK => ?_) (AllReadyH.nil))
            · go_simp
              go_at_call 9
              refine (qL1.out _ _ (cubes1 B.out)).mono ?_
              rintro e D3 ⟨rfl, bj⟩
              refine hK.out _ _ (kb2.trans (bj.mono kb2.size)) (fun hHeld => ?_)
              clear hK K
              try simp only [Act.put, List.setIfInBounds_toArray, List.set_cons_zero, List.set_cons_succ]
              have kb3 := kb2.trans (bj.mono kb2.size)
              replace B := hide_ (B.out.later bj)
              clear bj
              refine takeR (i := 4) (v := ?_) rfl (by kernel_rfl) (by kernel_rfl) (by kernel_rfl) (some 36) rfl (Or.inl ⟨by rfl, ?_⟩) (fun _ _ _ h => h) (by assumption) ?_
              rotate_left
              · intro w hSw; (try dsimp only at hSw); go_simp; (try with_reducible rfl)
              simp only [Act.put, List.setIfInBounds_toArray, List.set_cons_zero, List.set_cons_succ]
              refine takeR (i := 5) (v := ?_) rfl (by kernel_rfl) (by kernel_rfl) (by kernel_rfl) (some 41) rfl (Or.inl ⟨by rfl, ?_⟩) (fun _ _ _ h => h) (by assumption) ?_
              rotate_left
              · intro w hSw; (try dsimp only at hSw); go_simp; (try with_reducible rfl)
              simp only [Act.put, List.setIfInBounds_toArray, List.set_cons_zero, List.set_cons_succ]
              refine takeR (i := 6) (v := ?_) rfl (by kernel_rfl) (by kernel_rfl) (by kernel_rfl) (some 42) rfl (Or.inl ⟨by rfl, ?_⟩) (fun _ _ _ h => h) (by assumption) ?_
              rotate_left
              · intro w hSw; (try dsimp only at hSw); go_simp; (try with_reducible rfl)
              simp only [Act.put, List.setIfInBounds_toArray, List.set_cons_zero, List.set_cons_succ]
              refine takeR (i := 7) (v := ?_) rfl (by kernel_rfl) (by kernel_rfl) (by kernel_rfl) (some 43) rfl (Or.inl ⟨by rfl, ?_⟩) (fun _ _ _ h => h) (by assumption) ?_
              rotate_left
              · intro w hSw; (try dsimp only at hSw); go_simp; (try with_reducible rfl)
              simp only [Act.put, List.setIfInBounds_toArray, List.set_cons_zero, List.set_cons_succ]
              refine wpAnyH_ready (rs := [8]) (by kernel_rfl) (by simp) ?_
              refine AllReadyH.cons rfl (fun K hK => ?_) (AllReadyH.nil)
              go_simp
              refine hK.out _ _ (kb3.trans ((below1 D3 (.cells (wdc z24).toArray 33)).mono kb3.size)) (fun hHeld => ?_)
              clear hK K
              try simp only [Act.put, List.setIfInBounds_toArray, List.set_cons_zero, List.set_cons_succ]
              have bj := below1 D3 (.cells (wdc z24).toArray 33)
              have kb4 := kb3.trans (bj.mono kb3.size)
              have nHB : D3.heap.size ≠ gB := by have := B.out.lt; omega
              replace B := hide_ (B.out.later bj)
              have H : Hid (AB (D3.alloc (.cells (wdc z24).toArray 33)) D3.heap.size 33 (wdc z24)) := hide_ (by exact AB.at0 D3 33 (wdc z24))
              have lH : V3.heap.size ≤ D3.heap.size := kb3.size
              clear bj
              generalize D3.alloc (.cells (wdc z24).toArray 33) = D4 at *
              generalize D3.heap.size = gH at *
              refine wpAnyH_ready (rs := [9]) (by kernel_rfl) (by simp) ?_
              refine AllReadyH.cons rfl (fun K hK => ?_) (AllReadyH.nil)
              refine wp_store_row 33 (.tmp 9) (.tmp 41) rfl gH (wdc h1).toArray rfl rfl 33 (wdc z24).toArray H.out (by simpa using szW lh1.out) (by simp only [List.size_toArray, wdc_length, lh1.out, z24_len]) (all_oneCell_toArray (wdc_one _)) ?_
              refine hK.out _ _ (kb4.trans (below_row D4 gH V3.heap.size (wdc h1).toArray lH)) (fun hHeld => ?_)
              clear hK K
              try simp only [Act.put, List.setIfInBounds_toArray, List.set_cons_zero, List.set_cons_succ]
              have kb5 := kb4.trans (below_row D4 gH V3.heap.size (wdc h1).toArray lH)
              replace B := hide_ (B.out.row_far (f := gH) (wdc h1).toArray (by omega))
              replace H := hide_ (H.out.row (cs' := wdc h1))
              generalize D4.setRow gH (wdc h1).toArray = D5 at *
              refine takeR (i := 10) (v := ?_) rfl (by kernel_rfl) (by kernel_rfl) (by kernel_rfl) (some 10) rfl (Or.inl ⟨by rfl, ?_⟩) (fun _ _ _ h => h) (by assumption) ?_
              rotate_left
              · intro w hSw; (try dsimp only at hSw); go_simp; (try with_reducible rfl)
              simp only [Act.put, List.setIfInBounds_toArray, List.set_cons_zero, List.set_cons_succ]
              refine takeR (i := 11) (v := ?_) rfl (by kernel_rfl) (by kernel_rfl) (by kernel_rfl) (some 11) rfl (Or.inl ⟨by rfl, ?_⟩) (fun _ _ _ h => h) (by assumption) ?_
              rotate_left
              · intro w hSw; (try dsimp only at hSw); go_simp; (try with_reducible rfl)
              simp only [Act.put, List.setIfInBounds_toArray, List.set_cons_zero, List.set_cons_succ]
              refine wpAnyH_done (by kernel_rfl) ?_ _
              go_wp2_with fail
              go_meet
              exact ⟨rfl, kb5⟩
            · go_simp
              refine hK.out _ _ (kb2.trans ((below1 D2 (.cells (wdc z24).toArray 33)).mono kb2.size)) (fun hHeld => ?_)
              clear hK K
              try simp only [Act.put, List.setIfInBounds_toArray, List.set_cons_zero, List.set_cons_succ]
              have bj := below1 D2 (.cells (wdc z24).toArray 33)
              have kb3 := kb2.trans (bj.mono kb2.size)
              have nHB : D2.heap.size ≠ gB := by have := B.out.lt; omega
              replace B := hide_ (B.out.later bj)
              have H : Hid (AB (D2.alloc (.cells (wdc z24).toArray 33)) D2.heap.size 33 (wdc z24)) := hide_ (by exact AB.at0 D2 33 (wdc z24))
              have lH : V3.heap.size ≤ D2.heap.size := kb2.size
              clear bj
              generalize D2.alloc (.cells (wdc z24).toArray 33) = D3 at *
              generalize D2.heap.size = gH at *
              refine wpAnyH_ready (rs := [3]) (by kernel_rfl) (by simp) ?_
              refine AllReadyH.cons rfl (fun K hK => ?_) (AllReadyH.nil)
              go_simp
              go_at_call 9
              refine (qL1.out _ _ (cubes1 B.out)).mono ?_
              rintro e D4 ⟨rfl, bj⟩
              refine hK.out _ _ (kb3.trans (bj.mono kb3.size)) (fun hHeld => ?_)
              clear hK K
              try simp only [Act.put, List.setIfInBounds_toArray, List.set_cons_zero, List.set_cons_succ]
              have kb4 := kb3.trans (bj.mono kb3.size)
              replace B := hide_ (B.out.later bj)
              replace H := hide_ (H.out.later bj)
              clear bj
              refine takeR (i := 4) (v := ?_) rfl (by kernel_rfl) (by kernel_rfl) (by kernel_rfl) (some 36) rfl (Or.inl ⟨by rfl, ?_⟩) (fun _ _ _ h => h) (by assumption) ?_
              rotate_left
              · intro w hSw; (try dsimp only at hSw); go_simp; (try with_reducible rfl)
              simp only [Act.put, List.setIfInBounds_toArray, List.set_cons_zero, List.set_cons_succ]
              refine takeR (i := 5) (v := ?_) rfl (by kernel_rfl) (by kernel_rfl) (by kernel_rfl) (some 41) rfl (Or.inl ⟨by rfl, ?_⟩) (fun _ _ _ h => h) (by assumption) ?_
              rotate_left
              · intro w hSw; (try dsimp only at hSw); go_simp; (try with_reducible rfl)
              simp only [Act.put, List.setIfInBounds_toArray, List.set_cons_zero, List.set_cons_succ]
              refine takeR (i := 6) (v := ?_) rfl (by kernel_rfl) (by kernel_rfl) (by kernel_rfl) (some 42) rfl (Or.inl ⟨by rfl, ?_⟩) (fun _ _ _ h => h) (by assumption) ?_
              rotate_left
              · intro w hSw; (try dsimp only at hSw); go_simp; (try with_reducible rfl)
              simp only [Act.put, List.setIfInBounds_toArray, List.set_cons_zero, List.set_cons_succ]
              refine takeR (i := 7) (v := ?_) rfl (by kernel_rfl) (by kernel_rfl) (by kernel_rfl) (some 43) rfl (Or.inl ⟨by rfl, ?_⟩) (fun _ _ _ h => h) (by assumption) ?_
              rotate_left
              · intro w hSw; (try dsimp only at hSw); go_simp; (try with_reducible rfl)
              simp only [Act.put, List.setIfInBounds_toArray, List.set_cons_zero, List.set_cons_succ]
              refine wpAnyH_ready (rs := [9]) (by kernel_rfl) (by simp) ?_
              refine AllReadyH.cons rfl (fun K hK => ?_) (AllReadyH.nil)
              refine wp_store_row 33 (.tmp 9) (.tmp 41) rfl gH (wdc h1).toArray rfl rfl 33 (wdc z24).toArray H.out (by simpa using szW lh1.out) (by simp only [List.size_toArray, wdc_length, lh1.out, z24_len]) (all_oneCell_toArray (wdc_one _)) ?_
              refine hK.out _ _ (kb4.trans (below_row D4 gH V3.heap.size (wdc h1).toArray lH)) (fun hHeld => ?_)
              clear hK K
              try simp only [Act.put, List.setIfInBounds_toArray, List.set_cons_zero, List.set_cons_succ]
              have kb5 := kb4.trans (below_row D4 gH V3.heap.size (wdc h1).toArray lH)
              replace B := hide_ (B.out.row_far (f := gH) (wdc h1).toArray (by omega))
              replace H := hide_ (H.out.row (cs' := wdc h1))
              generalize D4.setRow gH (wdc h1).toArray = D5 at *
              refine takeR (i := 10) (v := ?_) rfl (by kernel_rfl) (by kernel_rfl) (by kernel_rfl) (some 10) rfl (Or.inl ⟨by rfl, ?_⟩) (fun _ _ _ h => h) (by assumption) ?_
              rotate_left
              · intro w hSw; (try dsimp only at hSw); go_simp; (try with_reducible rfl)
              simp only [Act.put, List.setIfInBounds_toArray, List.set_cons_zero, List.set_cons_succ]
              refine takeR (i := 11) (v := ?_) rfl (by kernel_rfl) (by kernel_rfl) (by kernel_rfl) (some 11) rfl (Or.inl ⟨by rfl, ?_⟩) (fun _ _ _ h => h) (by assumption) ?_
              rotate_left
              · intro w hSw; (try dsimp only at hSw); go_simp; (try with_reducible rfl)
              simp only [Act.put, List.setIfInBounds_toArray, List.set_cons_zero, List.set_cons_succ]
              refine wpAnyH_done (by kernel_rfl) ?_ _
              go_wp2_with fail
              go_meet
              exact ⟨rfl, kb5⟩
          · go_simp
            refine hK.out _ _ (kb1.trans ((below1 D1 (.cells (wdc z24).toArray 33)).mono kb1.size)) (fun hHeld => ?_)
            clear hK K
            try simp only [Act.put, List.setIfInBounds_toArray, List.set_cons_zero, List.set_cons_succ]
            have bj := below1 D1 (.cells (wdc z24).toArray 33)
            have kb2 := kb1.trans (bj.mono kb1.size)
            have nHB : D1.heap.size ≠ gB := by have := B.out.lt; omega
            replace B := hide_ (B.out.later bj)
            have H : Hid (AB (D1.alloc (.cells (wdc z24).toArray 33)) D1.heap.size 33 (wdc z24)) := hide_ (by exact AB.at0 D1 33 (wdc z24))
            have lH : V3.heap.size ≤ D1.heap.size := kb1.size
            clear bj
            generalize D1.alloc (.cells (wdc z24).toArray 33) = D2 at *
            generalize D1.heap.size = gH at *
            refine wpAnyH_ready (rs := [0]) (by kernel_rfl) (by simp) ?_
            refine AllReadyH.cons rfl (fun K hK => ?_) (AllReadyH.nil)
            go_simp
            go_at_call 20
            refine (q9.out _).mono ?_
            rintro e D3 ⟨rfl, bj⟩
            refine hK.out _ _ (kb2.trans (bj.mono kb2.size)) (fun hHeld => ?_)
            clear hK K
            try simp only [Act.put, List.setIfInBounds_toArray, List.set_cons_zero, List.set_cons_succ]
            have kb3 := kb2.trans (bj.mono kb2.size)
            replace B := hide_ (B.out.later bj)
            replace H := hide_ (H.out.later bj)
            clear bj
            refine wpAnyH_ready (rs := [3]) (by kernel_rfl) (by simp) ?_
            refine AllReadyH.cons rfl (fun K hK => ?_) (AllReadyH.nil)
            go_simp
            go_at_call 9
            refine (qL1.out _ _ (cubes1 B.out)).mono ?_
            rintro e D4 ⟨rfl, bj⟩
            refine hK.out _ _ (kb3.trans (bj.mono kb3.size)) (fun hHeld => ?_)
            clear hK K
            try simp only [Act.put, List.setIfInBounds_toArray, List.set_cons_zero, List.set_cons_succ]
            have kb4 := kb3.trans (bj.mono kb3.size)
            replace B := hide_ (B.out.later bj)
            replace H := hide_ (H.out.later bj)
            clear bj
            refine takeR (i := 4) (v := ?_) rfl (by kernel_rfl) (by kernel_rfl) (by kernel_rfl) (some 36) rfl (Or.inl ⟨by rfl, ?_⟩) (fun _ _ _ h => h) (by assumption) ?_
            rotate_left
            · intro w hSw; (try dsimp only at hSw); go_simp; (try with_reducible rfl)
            simp only [Act.put, List.setIfInBounds_toArray, List.set_cons_zero, List.set_cons_succ]
            refine takeR (i := 5) (v := ?_) rfl (by kernel_rfl) (by kernel_rfl) (by kernel_rfl) (some 41) rfl (Or.inl ⟨by rfl, ?_⟩) (fun _ _ _ h => h) (by assumption) ?_
            rotate_left
            · intro w hSw; (try dsimp only at hSw); go_simp; (try with_reducible rfl)
            simp only [Act.put, List.setIfInBounds_toArray, List.set_cons_zero, List.set_cons_succ]
            refine takeR (i := 6) (v := ?_) rfl (by kernel_rfl) (by kernel_rfl) (by kernel_rfl) (some 42) rfl (Or.inl ⟨by rfl, ?_⟩) (fun _ _ _ h => h) (by assumption) ?_
            rotate_left
            · intro w hSw; (try dsimp only at hSw); go_simp; (try with_reducible rfl)
            simp only [Act.put, List.setIfInBounds_toArray, List.set_cons_zero, List.set_cons_succ]
            refine takeR (i := 7) (v := ?_) rfl (by kernel_rfl) (by kernel_rfl) (by kernel_rfl) (some 43) rfl (Or.inl ⟨by rfl, ?_⟩) (fun _ _ _ h => h) (by assumption) ?_
            rotate_left
            · intro w hSw; (try dsimp only at hSw); go_simp; (try with_reducible rfl)
            simp only [Act.put, List.setIfInBounds_toArray, List.set_cons_zero, List.set_cons_succ]
            refine wpAnyH_ready (rs := [9]) (by kernel_rfl) (by simp) ?_
            refine AllReadyH.cons rfl (fun K hK => ?_) (AllReadyH.nil)
            refine wp_store_row 33 (.tmp 9) (.tmp 41) rfl gH (wdc h1).toArray rfl rfl 33 (wdc z24).toArray H.out (by simpa using szW lh1.out) (by simp only [List.size_toArray, wdc_length, lh1.out, z24_len]) (all_oneCell_toArray (wdc_one _)) ?_
            refine hK.out _ _ (kb4.trans (below_row D4 gH V3.heap.size (wdc h1).toArray lH)) (fun hHeld => ?_)
            clear hK K
            try simp only [Act.put, List.setIfInBounds_toArray, List.set_cons_zero, List.set_cons_succ]
            have kb5 := kb4.trans (below_row D4 gH V3.heap.size (wdc h1).toArray lH)
            replace B := hide_ (B.out.row_far (f := gH) (wdc h1).toArray (by omega))
            replace H := hide_ (H.out.row (cs' := wdc h1))
            generalize D4.setRow gH (wdc h1).toArray = D5 at *
            refine takeR (i := 10) (v := ?_) rfl (by kernel_rfl) (by kernel_rfl) (by kernel_rfl) (some 10) rfl (Or.inl ⟨by rfl, ?_⟩) (fun _ _ _ h => h) (by assumption) ?_
            rotate_left
            · intro w hSw; (try dsimp only at hSw); go_simp; (try with_reducible rfl)
            simp only [Act.put, List.setIfInBounds_toArray, List.set_cons_zero, List.set_cons_succ]
            refine takeR (i := 11) (v := ?_) rfl (by kernel_rfl) (by kernel_rfl) (by kernel_rfl) (some 11) rfl (Or.inl ⟨by rfl, ?_⟩) (fun _ _ _ h => h) (by assumption) ?_
            rotate_left
            · intro w hSw; (try dsimp only at hSw); go_simp; (try with_reducible rfl)
            simp only [Act.put, List.setIfInBounds_toArray, List.set_cons_zero, List.set_cons_succ]
            refine wpAnyH_done (by kernel_rfl) ?_ _
            go_wp2_with fail
            go_meet
            exact ⟨rfl, kb5⟩
        · go_simp
          refine hK.out _ _ (kb0.trans ((below1 D0 (.cells (wdc z24).toArray 33)).mono kb0.size)) (fun hHeld => ?_)
          clear hK K
          try simp only [Act.put, List.setIfInBounds_toArray, List.set_cons_zero, List.set_cons_succ]
          have bj := below1 D0 (.cells (wdc z24).toArray 33)
          have kb1 := kb0.trans (bj.mono kb0.size)
          have H : Hid (AB (D0.alloc (.cells (wdc z24).toArray 33)) D0.heap.size 33 (wdc z24)) := hide_ (by exact AB.at0 D0 33 (wdc z24))
          have lH : V3.heap.size ≤ D0.heap.size := kb0.size
          clear bj
          generalize D0.alloc (.cells (wdc z24).toArray 33) = D1 at *
          generalize D0.heap.size = gH at *
          refine wpAnyH_ready (rs := [0, 2]) (by kernel_rfl) (by simp) ?_
          refine AllReadyH.cons rfl (fun K hK => ?_) (AllReadyH.cons rfl (fun K hK => ?_) (AllReadyH.nil))
          · go_simp
            go_at_call 20
            refine (q9.out _).mono ?_
            rintro e D2 ⟨rfl, bj⟩
            refine hK.out _ _ (kb1.trans (bj.mono kb1.size)) (fun hHeld => ?_)
            clear hK K
            try simp only [Act.put, List.setIfInBounds_toArray, List.set_cons_zero, List.set_cons_succ]
            have kb2 := kb1.trans (bj.mono kb1.size)
            replace H := hide_ (H.out.later bj)
            clear bj
            refine wpAnyH_ready (rs := [2]) (by kernel_rfl) (by simp) ?_
            refine AllReadyH.cons rfl (fun K hK => ?_) (AllReadyH.nil)
            refine wp_build1 29 28 (.tmp 38) rfl (tdc offQ) (.agg (tdc z24q).toArray) 96 768 (by first | rfl | simp [Act.eval, Act.put]) Try.underlying29 infoC szCells (by rw [tdc_length, lo.out]) (by decide) (by decide) ?_
            refine hK.out _ _ (kb2.trans ((below1 D2 (.cells (tdc offQ).toArray 28)).mono kb2.size)) (fun hHeld => ?_)
            clear hK K
            try simp only [Act.put, List.setIfInBounds_toArray, List.set_cons_zero, List.set_cons_succ]
            have bj := below1 D2 (.cells (tdc offQ).toArray 28)
            have kb3 := kb2.trans (bj.mono kb2.size)
            have nBH : D2.heap.size ≠ gH := by have := H.out.lt; omega
            replace H := hide_ (H.out.later bj)
            have B : Hid (AB (D2.alloc (.cells (tdc offQ).toArray 28)) D2.heap.size 28 (tdc offQ)) := hide_ (by exact AB.at0 D2 28 (tdc offQ))
            have lB : V3.heap.size ≤ D2.heap.size := kb2.size
            clear bj
            generalize D2.alloc (.cells (tdc offQ).toArray 28) = D3 at *
            generalize D2.heap.size = gB at *
            refine wpAnyH_ready (rs := [3]) (by kernel_rfl) (by simp) ?_
            refine AllReadyH.cons rfl (fun K hK => ?_) (AllReadyH.nil)
            go_simp
            go_at_call 9
            refine (qL1.out _ _ (cubes1 B.out)).mono ?_
            rintro e D4 ⟨rfl, bj⟩
            refine hK.out _ _ (kb3.trans (bj.mono kb3.size)) (fun hHeld => ?_)
            clear hK K
            try simp only [Act.put, List.setIfInBounds_toArray, List.set_cons_zero, List.set_cons_succ]
            have kb4 := kb3.trans (bj.mono kb3.size)
            replace H := hide_ (H.out.later bj)
            replace B := hide_ (B.out.later bj)
            clear bj
            refine takeR (i := 4) (v := ?_) rfl (by kernel_rfl) (by kernel_rfl) (by kernel_rfl) (some 36) rfl (Or.inl ⟨by rfl, ?_⟩) (fun _ _ _ h => h) (by assumption) ?_
            rotate_left
            · intro w hSw; (try dsimp only at hSw); go_simp; (try with_reducible rfl)
            simp only [Act.put, List.setIfInBounds_toArray, List.set_cons_zero, List.set_cons_succ]
            refine takeR (i := 5) (v := ?_) rfl (by kernel_rfl) (by kernel_rfl) (by kernel_rfl) (some 41) rfl (Or.inl ⟨by rfl, ?_⟩) (fun _ _ _ h => h) (by assumption) ?_
            rotate_left
            · intro w hSw; (try dsimp only at hSw); go_simp; (try with_reducible rfl)
            simp only [Act.put, List.setIfInBounds_toArray, List.set_cons_zero, List.set_cons_succ]
            refine takeR (i := 6) (v := ?_) rfl (by kernel_rfl) (by kernel_rfl) (by kernel_rfl) (some 42) rfl (Or.inl ⟨by rfl, ?_⟩) (fun _ _ _ h => h) (by assumption) ?_
            rotate_left
            · intro w hSw; (try dsimp only at hSw); go_simp; (try with_reducible rfl)
            simp only [Act.put, List.setIfInBounds_toArray, List.set_cons_zero, List.set_cons_succ]
            refine takeR (i := 7) (v := ?_) rfl (by kernel_rfl) (by kernel_rfl) (by kernel_rfl) (some 43) rfl (Or.inl ⟨by rfl, ?_⟩) (fun _ _ _ h => h) (by assumption) ?_
            rotate_left
            · intro w hSw; (try dsimp only at hSw); go_simp; (try with_reducible rfl)
            simp only [Act.put, List.setIfInBounds_toArray, List.set_cons_zero, List.set_cons_succ]
            refine wpAnyH_ready (rs := [9]) (by kernel_rfl) (by simp) ?_
            refine AllReadyH.cons rfl (fun K hK => ?_) (AllReadyH.nil)
            refine wp_store_row 33 (.tmp 9) (.tmp 41) rfl gH (wdc h1).toArray rfl rfl 33 (wdc z24).toArray H.out (by simpa using szW lh1.out) (by simp only [List.size_toArray, wdc_length, lh1.out, z24_len]) (all_oneCell_toArray (wdc_one _)) ?_
            refine hK.out _ _ (kb4.trans (below_row D4 gH V3.heap.size (wdc h1).toArray lH)) (fun hHeld => ?_)
            clear hK K
            try simp only [Act.put, List.setIfInBounds_toArray, List.set_cons_zero, List.set_cons_succ]
            have kb5 := kb4.trans (below_row D4 gH V3.heap.size (wdc h1).toArray lH)
            replace B := hide_ (B.out.row_far (f := gH) (wdc h1).toArray (by omega))
            replace H := hide_ (H.out.row (cs' := wdc h1))
            generalize D4.setRow gH (wdc h1).toArray = D5 at *
            refine takeR (i := 10) (v := ?_) rfl (by kernel_rfl) (by kernel_rfl) (by kernel_rfl) (some 10) rfl (Or.inl ⟨by rfl, ?_⟩) (fun _ _ _ h => h) (by assumption) ?_
            rotate_left
            · intro w hSw; (try dsimp only at hSw); go_simp; (try with_reducible rfl)
            simp only [Act.put, List.setIfInBounds_toArray, List.set_cons_zero, List.set_cons_succ]
            refine takeR (i := 11) (v := ?_) rfl (by kernel_rfl) (by kernel_rfl) (by kernel_rfl) (some 11) rfl (Or.inl ⟨by rfl, ?_⟩) (fun _ _ _ h => h) (by assumption) ?_
            rotate_left
            · intro w hSw; (try dsimp only at hSw); go_simp; (try with_reducible rfl)
            simp only [Act.put, List.setIfInBounds_toArray, List.set_cons_zero, List.set_cons_succ]
            refine wpAnyH_done (by kernel_rfl) ?_ _
            go_wp2_with fail
            go_meet
            exact ⟨rfl, kb5⟩
          · refine wp_build1 29 28 (.tmp 38) rfl (tdc offQ) (.agg (tdc z24q).toArray) 96 768 (by first | rfl | simp [Act.eval, Act.put]) Try.underlying29 infoC szCells (by rw [tdc_length, lo.out]) (by decide) (by decide) ?_
            refine hK.out _ _ (kb1.trans ((below1 D1 (.cells (tdc offQ).toArray 28)).mono kb1.size)) (fun hHeld => ?_)
            clear hK K
            try simp only [Act.put, List.setIfInBounds_toArray, List.set_cons_zero, List.set_cons_succ]
            have bj := below1 D1 (.cells (tdc offQ).toArray 28)
            have kb2 := kb1.trans (bj.mono kb1.size)
            have nBH : D1.heap.size ≠ gH := by have := H.out.lt; omega
            replace H := hide_ (H.out.later bj)
            have B : Hid (AB (D1.alloc (.cells (tdc offQ).toArray 28)) D1.heap.size 28 (tdc offQ)) := hide_ (by exact AB.at0 D1 28 (tdc offQ))
            have lB : V3.heap.size ≤ D1.heap.size := kb1.size
            clear bj
            generalize D1.alloc (.cells (tdc offQ).toArray 28) = D2 at *
            generalize D1.heap.size = gB at *
            refine wpAnyH_ready (rs := [0]) (by kernel_rfl) (by simp) ?_
            refine AllReadyH.cons rfl (fun K hK => ?_) (AllReadyH.nil)
            go_simp
            go_at_call 20
            refine (q9.out _).mono ?_
            rintro e D3 ⟨rfl, bj⟩
            refine hK.out _ _ (kb2.trans (bj.mono kb2.size)) (fun hHeld => ?_)
            clear hK K
            try simp only [Act.put, List.setIfInBounds_toArray, List.set_cons_zero, List.set_cons_succ]
            have kb3 := kb2.trans (bj.mono kb2.size)
            replace H := hide_ (H.out.later bj)
            replace B := hide_ (B.out.later bj)
            clear bj
            refine wpAnyH_ready (rs := [3]) (by kernel_rfl) (by simp) ?_
            refine AllReadyH.cons rfl (fun K hK => ?_) (AllReadyH.nil)
            go_simp
            go_at_call 9
            refine (qL1.out _ _ (cubes1 B.out)).mono ?_
            rintro e D4 ⟨rfl, bj⟩
            refine hK.out _ _ (kb3.trans (bj.mono kb3.size)) (fun hHeld => ?_)
            clear hK K
            try simp only [Act.put, List.setIfInBounds_toArray, List.set_cons_zero, List.set_cons_succ]
            have kb4 := kb3.trans (bj.mono kb3.size)
            replace H := hide_ (H.out.later bj)
            replace B := hide_ (B.out.later bj)
            clear bj
            refine takeR (i := 4) (v := ?_) rfl (by kernel_rfl) (by kernel_rfl) (by kernel_rfl) (some 36) rfl (Or.inl ⟨by rfl, ?_⟩) (fun _ _ _ h => h) (by assumption) ?_
            rotate_left
            · intro w hSw; (try dsimp only at hSw); go_simp; (try with_reducible rfl)
            simp only [Act.put, List.setIfInBounds_toArray, List.set_cons_zero, List.set_cons_succ]
            refine takeR (i := 5) (v := ?_) rfl (by kernel_rfl) (by kernel_rfl) (by kernel_rfl) (some 41) rfl (Or.inl ⟨by rfl, ?_⟩) (fun _ _ _ h => h) (by assumption) ?_
            rotate_left
            · intro w hSw; (try dsimp only at hSw); go_simp; (try with_reducible rfl)
            simp only [Act.put, List.setIfInBounds_toArray, List.set_cons_zero, List.set_cons_succ]
            refine takeR (i := 6) (v := ?_) rfl (by kernel_rfl) (by kernel_rfl) (by kernel_rfl) (some 42) rfl (Or.inl ⟨by rfl, ?_⟩) (fun _ _ _ h => h) (by assumption) ?_
            rotate_left
            · intro w hSw; (try dsimp only at hSw); go_simp; (try with_reducible rfl)
            simp only [Act.put, List.setIfInBounds_toArray, List.set_cons_zero, List.set_cons_succ]
            refine takeR (i := 7) (v := ?_) rfl (by kernel_rfl) (by kernel_rfl) (by kernel_rfl) (some 43) rfl (Or.inl ⟨by rfl, ?_⟩) (fun _ _ _ h => h) (by assumption) ?_
            rotate_left
            · intro w hSw; (try dsimp only at hSw); go_simp; (try with_reducible rfl)
            simp only [Act.put, List.setIfInBounds_toArray, List.set_cons_zero, List.set_cons_succ]
            refine wpAnyH_ready (rs := [9]) (by kernel_rfl) (by simp) ?_
            refine AllReadyH.cons rfl (fun K hK => ?_) (AllReadyH.nil)
            refine wp_store_row 33 (.tmp 9) (.tmp 41) rfl gH (wdc h1).toArray rfl rfl 33 (wdc z24).toArray H.out (by simpa using szW lh1.out) (by simp only [List.size_toArray, wdc_length, lh1.out, z24_len]) (all_oneCell_toArray (wdc_one _)) ?_
            refine hK.out _ _ (kb4.trans (below_row D4 gH V3.heap.size (wdc h1).toArray lH)) (fun hHeld => ?_)
            clear hK K
            try simp only [Act.put, List.setIfInBounds_toArray, List.set_cons_zero, List.set_cons_succ]
            have kb5 := kb4.trans (below_row D4 gH V3.heap.size (wdc h1).toArray lH)
            replace B := hide_ (B.out.row_far (f := gH) (wdc h1).toArray (by omega))
            replace H := hide_ (H.out.row (cs' := wdc h1))
            generalize D4.setRow gH (wdc h1).toArray = D5 at *
            refine takeR (i := 10) (v := ?_) rfl (by kernel_rfl) (by kernel_rfl) (by kernel_rfl) (some 10) rfl (Or.inl ⟨by rfl, ?_⟩) (fun _ _ _ h => h) (by assumption) ?_
            rotate_left
            · intro w hSw; (try dsimp only at hSw); go_simp; (try with_reducible rfl)
            simp only [Act.put, List.setIfInBounds_toArray, List.set_cons_zero, List.set_cons_succ]
            refine takeR (i := 11) (v := ?_) rfl (by kernel_rfl) (by kernel_rfl) (by kernel_rfl) (some 11) rfl (Or.inl ⟨by rfl, ?_⟩) (fun _ _ _ h => h) (by assumption) ?_
            rotate_left
            · intro w hSw; (try dsimp only at hSw); go_simp; (try with_reducible rfl)
            simp only [Act.put, List.setIfInBounds_toArray, List.set_cons_zero, List.set_cons_succ]
            refine wpAnyH_done (by kernel_rfl) ?_ _
            go_wp2_with fail
            go_meet
            exact ⟨rfl, kb5⟩
      case rest =>
        obtain ⟨rfl, k4⟩ := hcut
        replace hcell := cell_later k4 hcell
        replace A1 := hide_ (A1.out.later k4)
        replace A2 := hide_ (A2.out.later k4)
        have BV4 := hide_ (BV.out.trans (k4.mono BV.out.size))
        clear k4 BV
        generalize wc = V4 at *
        go_wp2_with fail
        refine wp_region_held_drew (S := (fun w' => Below V4.heap.size V4 w')) (by kernel_rfl) ((Below.refl _ _).drew) (fun hHeld => ?_)
        have kb0 : Below V4.heap.size V4 V4.drew := (Below.refl _ _).drew
        generalize V4.drew = D0 at *
        refine takeR (i := 0) (v := ?_) rfl (by kernel_rfl) (by kernel_rfl) (by kernel_rfl) (some 44) rfl (Or.inl ⟨by rfl, ?_⟩) (fun _ _ _ h => h) (by assumption) ?_
        rotate_left
        · intro w hSw; (try dsimp only at hSw); go_simp; (try with_reducible rfl)
        simp only [Act.put, List.setIfInBounds_toArray, List.set_cons_zero, List.set_cons_succ]
        refine takeR (i := 1) (v := ?_) rfl (by kernel_rfl) (by kernel_rfl) (by kernel_rfl) (some 45) rfl (Or.inl ⟨by rfl, ?_⟩) (fun _ _ _ h => h) (by assumption) ?_
        rotate_left
        · intro w hSw; (try dsimp only at hSw); go_simp; (try with_reducible rfl)
        simp only [Act.put, List.setIfInBounds_toArray, List.set_cons_zero, List.set_cons_succ]
        refine takeR (i := 2) (v := ?_) rfl (by kernel_rfl) (by kernel_rfl) (by kernel_rfl) (some 46) rfl (Or.inl ⟨by rfl, ?_⟩) (fun _ _ _ h => h) (by assumption) ?_
        rotate_left
        · intro w hSw; (try dsimp only at hSw); go_simp; (try with_reducible rfl)
        simp only [Act.put, List.setIfInBounds_toArray, List.set_cons_zero, List.set_cons_succ]
        refine takeR (i := 3) (v := ?_) rfl (by kernel_rfl) (by kernel_rfl) (by kernel_rfl) (some 47) rfl (Or.inl ⟨by rfl, ?_⟩) (fun _ _ _ h => h) (by assumption) ?_
        rotate_left
        · intro w hSw; (try dsimp only at hSw); go_simp; (try with_reducible rfl)
        simp only [Act.put, List.setIfInBounds_toArray, List.set_cons_zero, List.set_cons_succ]
        refine takeR (i := 4) (v := ?_) rfl (by kernel_rfl) (by kernel_rfl) (by kernel_rfl) (some 48) rfl (Or.inl ⟨by rfl, ?_⟩) (fun _ _ _ h => h) (by assumption) ?_
        rotate_left
        · intro w hSw; (try dsimp only at hSw); go_simp; (try with_reducible rfl)
        simp only [Act.put, List.setIfInBounds_toArray, List.set_cons_zero, List.set_cons_succ]
        refine takeR (i := 5) (v := ?_) rfl (by kernel_rfl) (by kernel_rfl) (by kernel_rfl) (some 49) rfl (Or.inl ⟨by rfl, ?_⟩) (fun _ _ _ h => h) (by assumption) ?_
        rotate_left
        · intro w hSw; (try dsimp only at hSw); go_simp; (try with_reducible rfl)
        simp only [Act.put, List.setIfInBounds_toArray, List.set_cons_zero, List.set_cons_succ]
        refine takeR (i := 6) (v := ?_) rfl (by kernel_rfl) (by kernel_rfl) (by kernel_rfl) (some 50) rfl (Or.inl ⟨by rfl, ?_⟩) (fun _ _ _ h => h) (by assumption) ?_
        rotate_left
        · intro w hSw; (try dsimp only at hSw); go_simp; (try with_reducible rfl)
        simp only [Act.put, List.setIfInBounds_toArray, List.set_cons_zero, List.set_cons_succ]
        refine takeR (i := 7) (v := ?_) rfl (by kernel_rfl) (by kernel_rfl) (by kernel_rfl) (some 51) rfl (Or.inl ⟨by rfl, ?_⟩) (fun _ _ _ h => h) (by assumption) ?_
        rotate_left
        · intro w hSw; (try dsimp only at hSw); go_simp; (try with_reducible rfl)
        simp only [Act.put, List.setIfInBounds_toArray, List.set_cons_zero, List.set_cons_succ]
        refine takeR (i := 8) (v := ?_) rfl (by kernel_rfl) (by kernel_rfl) (by kernel_rfl) (some 52) rfl (Or.inl ⟨by rfl, ?_⟩) (fun _ _ _ h => h) (by assumption) ?_
        rotate_left
        · intro w hSw; (try dsimp only at hSw); go_simp; (try with_reducible rfl)
        simp only [Act.put, List.setIfInBounds_toArray, List.set_cons_zero, List.set_cons_succ]
        refine takeR (i := 9) (v := ?_) rfl (by kernel_rfl) (by kernel_rfl) (by kernel_rfl) (some 53) rfl (Or.inl ⟨by rfl, ?_⟩) (fun _ _ _ h => h) (by assumption) ?_
        rotate_left
        · intro w hSw; (try dsimp only at hSw); go_simp; (try with_reducible rfl)
        simp only [Act.put, List.setIfInBounds_toArray, List.set_cons_zero, List.set_cons_succ]
        refine takeR (i := 10) (v := ?_) rfl (by kernel_rfl) (by kernel_rfl) (by kernel_rfl) (some 54) rfl (Or.inl ⟨by rfl, ?_⟩) (fun _ _ _ h => h) (by assumption) ?_
        rotate_left
        · intro w hSw; (try dsimp only at hSw); go_simp; (try with_reducible rfl)
        simp only [Act.put, List.setIfInBounds_toArray, List.set_cons_zero, List.set_cons_succ]
        refine takeR (i := 11) (v := ?_) rfl (by kernel_rfl) (by kernel_rfl) (by kernel_rfl) (some 55) rfl (Or.inl ⟨by rfl, ?_⟩) (fun _ _ _ h => h) (by assumption) ?_
        rotate_left
        · intro w hSw; (try dsimp only at hSw); go_simp; (try with_reducible rfl)
        simp only [Act.put, List.setIfInBounds_toArray, List.set_cons_zero, List.set_cons_succ]
        refine takeR (i := 12) (v := ?_) rfl (by kernel_rfl) (by kernel_rfl) (by kernel_rfl) (some 56) rfl (Or.inl ⟨by rfl, ?_⟩) (fun _ _ _ h => h) (by assumption) ?_
        rotate_left
        · intro w hSw; (try dsimp only at hSw); go_simp; (try with_reducible rfl)
        simp only [Act.put, List.setIfInBounds_toArray, List.set_cons_zero, List.set_cons_succ]
        refine takeR (i := 13) (v := ?_) rfl (by kernel_rfl) (by kernel_rfl) (by kernel_rfl) (some 57) rfl (Or.inl ⟨by rfl, ?_⟩) (fun _ _ _ h => h) (by assumption) ?_
        rotate_left
        · intro w hSw; (try dsimp only at hSw); go_simp; (try with_reducible rfl)
        simp only [Act.put, List.setIfInBounds_toArray, List.set_cons_zero, List.set_cons_succ]
        refine takeR (i := 14) (v := ?_) rfl (by kernel_rfl) (by kernel_rfl) (by kernel_rfl) (some 58) rfl (Or.inl ⟨by rfl, ?_⟩) (fun _ _ _ h => h) (by assumption) ?_
        rotate_left
        · intro w hSw; (try dsimp only at hSw); go_simp; (try with_reducible rfl)
        simp only [Act.put, List.setIfInBounds_toArray, List.set_cons_zero, List.set_cons_succ]
        refine takeR (i := 15) (v := ?_) rfl (by kernel_rfl) (by kernel_rfl) (by kernel_rfl) (some 59) rfl (Or.inl ⟨by rfl, ?_⟩) (fun _ _ _ h => h) (by assumption) ?_
        rotate_left
        · intro w hSw; (try dsimp only at hSw); go_simp; (try with_reducible rfl)
        simp only [Act.put, List.setIfInBounds_toArray, List.set_cons_zero, List.set_cons_succ]
        refine takeR (i := 16) (v := ?_) rfl (by kernel_rfl) (by kernel_rfl) (by kernel_rfl) (some 60) rfl (Or.inl ⟨by rfl, ?_⟩) (fun _ _ _ h => h) (by assumption) ?_
        rotate_left
        · intro w hSw; (try dsimp only at hSw); have hcx := cell_later hSw hcell; go_simp; (try with_reducible rfl)
        simp only [Act.put, List.setIfInBounds_toArray, List.set_cons_zero, List.set_cons_succ]
        refine takeR (i := 17) (v := ?_) rfl (by kernel_rfl) (by kernel_rfl) (by kernel_rfl) (some 61) rfl (Or.inl ⟨by rfl, ?_⟩) (fun _ _ _ h => h) (by assumption) ?_
        rotate_left
        · intro w hSw; (try dsimp only at hSw); go_simp; (try with_reducible rfl)
        simp only [Act.put, List.setIfInBounds_toArray, List.set_cons_zero, List.set_cons_succ]
        refine takeR (i := 18) (v := ?_) rfl (by kernel_rfl) (by kernel_rfl) (by kernel_rfl) (some 62) rfl (Or.inl ⟨by rfl, ?_⟩) (fun _ _ _ h => h) (by assumption) ?_
        rotate_left
        · intro w hSw; (try dsimp only at hSw); go_simp; (try with_reducible rfl)
        simp only [Act.put, List.setIfInBounds_toArray, List.set_cons_zero, List.set_cons_succ]
        refine takeR (i := 19) (v := ?_) rfl (by kernel_rfl) (by kernel_rfl) (by kernel_rfl) (some 63) rfl (Or.inl ⟨by rfl, ?_⟩) (fun _ _ _ h => h) (by assumption) ?_
        rotate_left
        · intro w hSw; (try dsimp only at hSw); go_simp; (try with_reducible rfl)
        simp only [Act.put, List.setIfInBounds_toArray, List.set_cons_zero, List.set_cons_succ]
        refine takeR (i := 20) (v := ?_) rfl (by kernel_rfl) (by kernel_rfl) (by kernel_rfl) (some 64) rfl (Or.inl ⟨by rfl, ?_⟩) (fun _ _ _ h => h) (by assumption) ?_
        rotate_left
        · intro w hSw; (try dsimp only at hSw); go_simp; (try with_reducible rfl)
        simp only [Act.put, List.setIfInBounds_toArray, List.set_cons_zero, List.set_cons_succ]
        refine takeR (i := 21) (v := ?_) rfl (by kernel_rfl) (by kernel_rfl) (by kernel_rfl) (some 65) rfl (Or.inl ⟨by rfl, ?_⟩) (fun _ _ _ h => h) (by assumption) ?_
        rotate_left
        · intro w hSw; (try dsimp only at hSw); go_simp; (try with_reducible rfl)
        simp only [Act.put, List.setIfInBounds_toArray, List.set_cons_zero, List.set_cons_succ]
        refine takeR (i := 22) (v := ?_) rfl (by kernel_rfl) (by kernel_rfl) (by kernel_rfl) (some 66) rfl (Or.inl ⟨by rfl, ?_⟩) (fun _ _ _ h => h) (by assumption) ?_
        rotate_left
        · intro w hSw; (try dsimp only at hSw); go_simp; (try with_reducible rfl)
        simp only [Act.put, List.setIfInBounds_toArray, List.set_cons_zero, List.set_cons_succ]
        refine takeR (i := 23) (v := ?_) rfl (by kernel_rfl) (by kernel_rfl) (by kernel_rfl) (some 67) rfl (Or.inl ⟨by rfl, ?_⟩) (fun _ _ _ h => h) (by assumption) ?_
        rotate_left
        · intro w hSw; (try dsimp only at hSw); go_simp; (try with_reducible rfl)
        simp only [Act.put, List.setIfInBounds_toArray, List.set_cons_zero, List.set_cons_succ]
        refine takeL Try.underlying28 (i := 25) rfl (by kernel_rfl) (by kernel_rfl) (by kernel_rfl) (some 69) rfl (.tmp 1) rfl (by rfl) w.heap.size rfl (tdc offQ) (szC lo.out) (fun _ h => (A1.out.later h).range) (fun _ _ _ h => h) (by assumption) ?_
        simp only [Act.put, List.setIfInBounds_toArray, List.set_cons_zero, List.set_cons_succ]
        refine wpAnyH_ready (rs := [24, 26]) (by kernel_rfl) (by simp) ?_
        refine AllReadyH.cons rfl (fun K hK => ?_) (AllReadyH.cons rfl (fun K hK => ?_) (AllReadyH.nil))
        · go_simp
          go_at_call 20
          refine (q9.out _).mono ?_
          rintro e D1 ⟨rfl, bj⟩
          refine hK.out _ _ (kb0.trans (bj.mono kb0.size)) (fun hHeld => ?_)
          clear hK K
          try simp only [Act.put, List.setIfInBounds_toArray, List.set_cons_zero, List.set_cons_succ]
          have kb1 := kb0.trans (bj.mono kb0.size)
          clear bj
          refine wpAnyH_ready (rs := [26]) (by kernel_rfl) (by simp) ?_
          refine AllReadyH.cons rfl (fun K hK => ?_) (AllReadyH.nil)
          refine wp_build1 29 28 (.tmp 69) rfl (tdc offQ) (.agg (tdc z24q).toArray) 96 768 (by first | rfl | simp [Act.eval, Act.put]) Try.underlying29 infoC szCells (by rw [tdc_length, lo.out]) (by decide) (by decide) ?_
          refine hK.out _ _ (kb1.trans ((below1 D1 (.cells (tdc offQ).toArray 28)).mono kb1.size)) (fun hHeld => ?_)
          clear hK K
          try simp only [Act.put, List.setIfInBounds_toArray, List.set_cons_zero, List.set_cons_succ]
          have bj := below1 D1 (.cells (tdc offQ).toArray 28)
          have kb2 := kb1.trans (bj.mono kb1.size)
          have B : Hid (AB (D1.alloc (.cells (tdc offQ).toArray 28)) D1.heap.size 28 (tdc offQ)) := hide_ (by exact AB.at0 D1 28 (tdc offQ))
          have lB : V4.heap.size ≤ D1.heap.size := kb1.size
          clear bj
          generalize D1.alloc (.cells (tdc offQ).toArray 28) = D2 at *
          generalize D1.heap.size = gB at *
          refine wpAnyH_ready (rs := [27]) (by kernel_rfl) (by simp) ?_
          refine AllReadyH.cons rfl (fun K hK => ?_) (AllReadyH.nil)
          go_simp
          go_at_call 14
          refine (qB.out _ _ (cubes1 B.out)).mono ?_
          rintro e D3 ⟨rfl, bj⟩
          refine hK.out _ _ (kb2.trans (bj.mono kb2.size)) (fun hHeld => ?_)
          clear hK K
          try simp only [Act.put, List.setIfInBounds_toArray, List.set_cons_zero, List.set_cons_succ]
          have kb3 := kb2.trans (bj.mono kb2.size)
          replace B := hide_ (B.out.later bj)
          clear bj
          refine takeR (i := 28) (v := ?_) rfl (by kernel_rfl) (by kernel_rfl) (by kernel_rfl) (some 72) rfl (Or.inl ⟨by rfl, ?_⟩) (fun _ _ _ h => h) (by assumption) ?_
          rotate_left
          · intro w hSw; (try dsimp only at hSw); go_simp; (try with_reducible rfl)
          simp only [Act.put, List.setIfInBounds_toArray, List.set_cons_zero, List.set_cons_succ]
          refine takeR (i := 29) (v := ?_) rfl (by kernel_rfl) (by kernel_rfl) (by kernel_rfl) (some 73) rfl (Or.inl ⟨by rfl, ?_⟩) (fun _ _ _ h => h) (by assumption) ?_
          rotate_left
          · intro w hSw; (try dsimp only at hSw); go_simp; (try with_reducible rfl)
          simp only [Act.put, List.setIfInBounds_toArray, List.set_cons_zero, List.set_cons_succ]
          refine takeR (i := 30) (v := ?_) rfl (by kernel_rfl) (by kernel_rfl) (by kernel_rfl) (some 74) rfl (Or.inl ⟨by rfl, ?_⟩) (fun _ _ _ h => h) (by assumption) ?_
          rotate_left
          · intro w hSw; (try dsimp only at hSw); go_simp; (try with_reducible rfl)
          simp only [Act.put, List.setIfInBounds_toArray, List.set_cons_zero, List.set_cons_succ]
          refine takeL Try.underlying28 (i := 31) rfl (by kernel_rfl) (by kernel_rfl) (by kernel_rfl) (some 75) rfl (.tmp 2) rfl (by rfl) (w.heap.size + 1) rfl (tdc onQ) (szC ln.out) (fun _ h => (A2.out.later h).range) (fun _ _ _ h => h) (by assumption) ?_
          simp only [Act.put, List.setIfInBounds_toArray, List.set_cons_zero, List.set_cons_succ]
          refine takeL Try.underlying28 (i := 32) rfl (by kernel_rfl) (by kernel_rfl) (by kernel_rfl) (some 76) rfl (.tmp 1) rfl (by rfl) w.heap.size rfl (tdc offQ) (szC lo.out) (fun _ h => (A1.out.later h).range) (fun _ _ _ h => h) (by assumption) ?_
          simp only [Act.put, List.setIfInBounds_toArray, List.set_cons_zero, List.set_cons_succ]
          refine takeL Try.underlying28 (i := 33) rfl (by kernel_rfl) (by kernel_rfl) (by kernel_rfl) (some 77) rfl (.tmp 2) rfl (by rfl) (w.heap.size + 1) rfl (tdc onQ) (szC ln.out) (fun _ h => (A2.out.later h).range) (fun _ _ _ h => h) (by assumption) ?_
          simp only [Act.put, List.setIfInBounds_toArray, List.set_cons_zero, List.set_cons_succ]
          refine wpAnyH_ready (rs := [34]) (by kernel_rfl) (by simp) ?_
          refine AllReadyH.cons rfl (fun K hK => ?_) (AllReadyH.nil)
          refine wp_build2 29 28 (.tmp 76) (.tmp 77) rfl (tdc offQ) (tdc onQ) (.agg (tdc z24q).toArray) 96 768 (by first | rfl | simp [Act.eval, Act.put]) (by first | rfl | simp [Act.eval, Act.put]) Try.underlying29 infoC szCells (by rw [tdc_length, lo.out]) (by rw [tdc_length, ln.out]) (by decide) (by decide) ?_
          refine hK.out _ _ (kb3.trans ((below1 D3 (.cells (tdc offQ ++ tdc onQ).toArray 28)).mono kb3.size)) (fun hHeld => ?_)
          clear hK K
          try simp only [Act.put, List.setIfInBounds_toArray, List.set_cons_zero, List.set_cons_succ]
          have bj := below1 D3 (.cells (tdc offQ ++ tdc onQ).toArray 28)
          have kb4 := kb3.trans (bj.mono kb3.size)
          have nCB : D3.heap.size ≠ gB := by have := B.out.lt; omega
          replace B := hide_ (B.out.later bj)
          have C : Hid (AB (D3.alloc (.cells (tdc offQ ++ tdc onQ).toArray 28)) D3.heap.size 28 (tdc offQ ++ tdc onQ)) := hide_ (by exact AB.at0 D3 28 (tdc offQ ++ tdc onQ))
          have lC : V4.heap.size ≤ D3.heap.size := kb3.size
          clear bj
          generalize D3.alloc (.cells (tdc offQ ++ tdc onQ).toArray 28) = D4 at *
          generalize D3.heap.size = gC at *
          refine wpAnyH_ready (rs := [35]) (by kernel_rfl) (by simp) ?_
          refine AllReadyH.cons rfl (fun K hK => ?_) (AllReadyH.nil)
          go_simp
          go_at_call 12
          refine (qM.out _ _ (cubes2 C.out)).mono ?_
          rintro e D5 ⟨um, cm, rfl, bj⟩
          refine hK.out _ _ (kb4.trans (bj.mono kb4.size)) (fun hHeld => ?_)
          clear hK K
          try simp only [Act.put, List.setIfInBounds_toArray, List.set_cons_zero, List.set_cons_succ]
          have kb5 := kb4.trans (bj.mono kb4.size)
          replace B := hide_ (B.out.later bj)
          replace C := hide_ (C.out.later bj)
          clear bj
          refine takeR (i := 36) (v := ?_) rfl (by kernel_rfl) (by kernel_rfl) (by kernel_rfl) (some 80) rfl (Or.inl ⟨by rfl, ?_⟩) (fun _ _ _ h => h) (by assumption) ?_
          rotate_left
          · intro w hSw; (try dsimp only at hSw); go_simp; (try with_reducible rfl)
          simp only [Act.put, List.setIfInBounds_toArray, List.set_cons_zero, List.set_cons_succ]
          refine takeR (i := 37) (v := ?_) rfl (by kernel_rfl) (by kernel_rfl) (by kernel_rfl) (some 81) rfl (Or.inl ⟨by rfl, ?_⟩) (fun _ _ _ h => h) (by assumption) ?_
          rotate_left
          · intro w hSw; (try dsimp only at hSw); go_simp; (try with_reducible rfl)
          simp only [Act.put, List.setIfInBounds_toArray, List.set_cons_zero, List.set_cons_succ]
          refine takeR (i := 38) (v := ?_) rfl (by kernel_rfl) (by kernel_rfl) (by kernel_rfl) (some 82) rfl (Or.inl ⟨by rfl, ?_⟩) (fun _ _ _ h => h) (by assumption) ?_
          rotate_left
          · intro w hSw; (try dsimp only at hSw); go_simp; (try with_reducible rfl)
          simp only [Act.put, List.setIfInBounds_toArray, List.set_cons_zero, List.set_cons_succ]
          refine takeR (i := 39) (v := ?_) rfl (by kernel_rfl) (by kernel_rfl) (by kernel_rfl) (some 0) rfl (Or.inl ⟨by rfl, ?_⟩) (fun _ _ _ h => h) (by assumption) ?_
          rotate_left
          · intro w hSw; (try dsimp only at hSw); go_simp; (try with_reducible rfl)
          simp only [Act.put, List.setIfInBounds_toArray, List.set_cons_zero, List.set_cons_succ]
          refine wpAnyH_done (by kernel_rfl) ?_ _
          go_wp2_with fail
          go_ret
          exact ⟨rfl, BV4.out.trans (kb5.mono BV4.out.size)⟩
        · refine wp_build1 29 28 (.tmp 69) rfl (tdc offQ) (.agg (tdc z24q).toArray) 96 768 (by first | rfl | simp [Act.eval, Act.put]) Try.underlying29 infoC szCells (by rw [tdc_length, lo.out]) (by decide) (by decide) ?_
          refine hK.out _ _ (kb0.trans ((below1 D0 (.cells (tdc offQ).toArray 28)).mono kb0.size)) (fun hHeld => ?_)
          clear hK K
          try simp only [Act.put, List.setIfInBounds_toArray, List.set_cons_zero, List.set_cons_succ]
          have bj := below1 D0 (.cells (tdc offQ).toArray 28)
          have kb1 := kb0.trans (bj.mono kb0.size)
          have B : Hid (AB (D0.alloc (.cells (tdc offQ).toArray 28)) D0.heap.size 28 (tdc offQ)) := hide_ (by exact AB.at0 D0 28 (tdc offQ))
          have lB : V4.heap.size ≤ D0.heap.size := kb0.size
          clear bj
          generalize D0.alloc (.cells (tdc offQ).toArray 28) = D1 at *
          generalize D0.heap.size = gB at *
          refine wpAnyH_ready (rs := [24]) (by kernel_rfl) (by simp) ?_
          refine AllReadyH.cons rfl (fun K hK => ?_) (AllReadyH.nil)
          go_simp
          go_at_call 20
          refine (q9.out _).mono ?_
          rintro e D2 ⟨rfl, bj⟩
          refine hK.out _ _ (kb1.trans (bj.mono kb1.size)) (fun hHeld => ?_)
          clear hK K
          try simp only [Act.put, List.setIfInBounds_toArray, List.set_cons_zero, List.set_cons_succ]
          have kb2 := kb1.trans (bj.mono kb1.size)
          replace B := hide_ (B.out.later bj)
          clear bj
          refine wpAnyH_ready (rs := [27]) (by kernel_rfl) (by simp) ?_
          refine AllReadyH.cons rfl (fun K hK => ?_) (AllReadyH.nil)
          go_simp
          go_at_call 14
          refine (qB.out _ _ (cubes1 B.out)).mono ?_
          rintro e D3 ⟨rfl, bj⟩
          refine hK.out _ _ (kb2.trans (bj.mono kb2.size)) (fun hHeld => ?_)
          clear hK K
          try simp only [Act.put, List.setIfInBounds_toArray, List.set_cons_zero, List.set_cons_succ]
          have kb3 := kb2.trans (bj.mono kb2.size)
          replace B := hide_ (B.out.later bj)
          clear bj
          refine takeR (i := 28) (v := ?_) rfl (by kernel_rfl) (by kernel_rfl) (by kernel_rfl) (some 72) rfl (Or.inl ⟨by rfl, ?_⟩) (fun _ _ _ h => h) (by assumption) ?_
          rotate_left
          · intro w hSw; (try dsimp only at hSw); go_simp; (try with_reducible rfl)
          simp only [Act.put, List.setIfInBounds_toArray, List.set_cons_zero, List.set_cons_succ]
          refine takeR (i := 29) (v := ?_) rfl (by kernel_rfl) (by kernel_rfl) (by kernel_rfl) (some 73) rfl (Or.inl ⟨by rfl, ?_⟩) (fun _ _ _ h => h) (by assumption) ?_
          rotate_left
          · intro w hSw; (try dsimp only at hSw); go_simp; (try with_reducible rfl)
          simp only [Act.put, List.setIfInBounds_toArray, List.set_cons_zero, List.set_cons_succ]
          refine takeR (i := 30) (v := ?_) rfl (by kernel_rfl) (by kernel_rfl) (by kernel_rfl) (some 74) rfl (Or.inl ⟨by rfl, ?_⟩) (fun _ _ _ h => h) (by assumption) ?_
          rotate_left
          · intro w hSw; (try dsimp only at hSw); go_simp; (try with_reducible rfl)
          simp only [Act.put, List.setIfInBounds_toArray, List.set_cons_zero, List.set_cons_succ]
          refine takeL Try.underlying28 (i := 31) rfl (by kernel_rfl) (by kernel_rfl) (by kernel_rfl) (some 75) rfl (.tmp 2) rfl (by rfl) (w.heap.size + 1) rfl (tdc onQ) (szC ln.out) (fun _ h => (A2.out.later h).range) (fun _ _ _ h => h) (by assumption) ?_
          simp only [Act.put, List.setIfInBounds_toArray, List.set_cons_zero, List.set_cons_succ]
          refine takeL Try.underlying28 (i := 32) rfl (by kernel_rfl) (by kernel_rfl) (by kernel_rfl) (some 76) rfl (.tmp 1) rfl (by rfl) w.heap.size rfl (tdc offQ) (szC lo.out) (fun _ h => (A1.out.later h).range) (fun _ _ _ h => h) (by assumption) ?_
          simp only [Act.put, List.setIfInBounds_toArray, List.set_cons_zero, List.set_cons_succ]
          refine takeL Try.underlying28 (i := 33) rfl (by kernel_rfl) (by kernel_rfl) (by kernel_rfl) (some 77) rfl (.tmp 2) rfl (by rfl) (w.heap.size + 1) rfl (tdc onQ) (szC ln.out) (fun _ h => (A2.out.later h).range) (fun _ _ _ h => h) (by assumption) ?_
          simp only [Act.put, List.setIfInBounds_toArray, List.set_cons_zero, List.set_cons_succ]
          refine wpAnyH_ready (rs := [34]) (by kernel_rfl) (by simp) ?_
          refine AllReadyH.cons rfl (fun K hK => ?_) (AllReadyH.nil)
          refine wp_build2 29 28 (.tmp 76) (.tmp 77) rfl (tdc offQ) (tdc onQ) (.agg (tdc z24q).toArray) 96 768 (by first | rfl | simp [Act.eval, Act.put]) (by first | rfl | simp [Act.eval, Act.put]) Try.underlying29 infoC szCells (by rw [tdc_length, lo.out]) (by rw [tdc_length, ln.out]) (by decide) (by decide) ?_
          refine hK.out _ _ (kb3.trans ((below1 D3 (.cells (tdc offQ ++ tdc onQ).toArray 28)).mono kb3.size)) (fun hHeld => ?_)
          clear hK K
          try simp only [Act.put, List.setIfInBounds_toArray, List.set_cons_zero, List.set_cons_succ]
          have bj := below1 D3 (.cells (tdc offQ ++ tdc onQ).toArray 28)
          have kb4 := kb3.trans (bj.mono kb3.size)
          have nCB : D3.heap.size ≠ gB := by have := B.out.lt; omega
          replace B := hide_ (B.out.later bj)
          have C : Hid (AB (D3.alloc (.cells (tdc offQ ++ tdc onQ).toArray 28)) D3.heap.size 28 (tdc offQ ++ tdc onQ)) := hide_ (by exact AB.at0 D3 28 (tdc offQ ++ tdc onQ))
          have lC : V4.heap.size ≤ D3.heap.size := kb3.size
          clear bj
          generalize D3.alloc (.cells (tdc offQ ++ tdc onQ).toArray 28) = D4 at *
          generalize D3.heap.size = gC at *
          refine wpAnyH_ready (rs := [35]) (by kernel_rfl) (by simp) ?_
          refine AllReadyH.cons rfl (fun K hK => ?_) (AllReadyH.nil)
          go_simp
          go_at_call 12
          refine (qM.out _ _ (cubes2 C.out)).mono ?_
          rintro e D5 ⟨um, cm, rfl, bj⟩
          refine hK.out _ _ (kb4.trans (bj.mono kb4.size)) (fun hHeld => ?_)
          clear hK K
          try simp only [Act.put, List.setIfInBounds_toArray, List.set_cons_zero, List.set_cons_succ]
          have kb5 := kb4.trans (bj.mono kb4.size)
          replace B := hide_ (B.out.later bj)
          replace C := hide_ (C.out.later bj)
          clear bj
          refine takeR (i := 36) (v := ?_) rfl (by kernel_rfl) (by kernel_rfl) (by kernel_rfl) (some 80) rfl (Or.inl ⟨by rfl, ?_⟩) (fun _ _ _ h => h) (by assumption) ?_
          rotate_left
          · intro w hSw; (try dsimp only at hSw); go_simp; (try with_reducible rfl)
          simp only [Act.put, List.setIfInBounds_toArray, List.set_cons_zero, List.set_cons_succ]
          refine takeR (i := 37) (v := ?_) rfl (by kernel_rfl) (by kernel_rfl) (by kernel_rfl) (some 81) rfl (Or.inl ⟨by rfl, ?_⟩) (fun _ _ _ h => h) (by assumption) ?_
          rotate_left
          · intro w hSw; (try dsimp only at hSw); go_simp; (try with_reducible rfl)
          simp only [Act.put, List.setIfInBounds_toArray, List.set_cons_zero, List.set_cons_succ]
          refine takeR (i := 38) (v := ?_) rfl (by kernel_rfl) (by kernel_rfl) (by kernel_rfl) (some 82) rfl (Or.inl ⟨by rfl, ?_⟩) (fun _ _ _ h => h) (by assumption) ?_
          rotate_left
          · intro w hSw; (try dsimp only at hSw); go_simp; (try with_reducible rfl)
          simp only [Act.put, List.setIfInBounds_toArray, List.set_cons_zero, List.set_cons_succ]
          refine takeR (i := 39) (v := ?_) rfl (by kernel_rfl) (by kernel_rfl) (by kernel_rfl) (some 0) rfl (Or.inl ⟨by rfl, ?_⟩) (fun _ _ _ h => h) (by assumption) ?_
          rotate_left
          · intro w hSw; (try dsimp only at hSw); go_simp; (try with_reducible rfl)
          simp only [Act.put, List.setIfInBounds_toArray, List.set_cons_zero, List.set_cons_succ]
          refine wpAnyH_done (by kernel_rfl) ?_ _
          go_wp2_with fail
          go_ret
          exact ⟨rfl, BV4.out.trans (kb5.mono BV4.out.size)⟩

end Go.Proofs.Ytbdbehdgpmfelaa
