import Derived.Test.YtickphnfgaibiabVg
import Derived.Test.YtickphnfgaibiabQf
import Derived.Test.YtickphnfgaibiabHg
import Derived.Test.YtickphnfgaibiabQh
import Derived.Test.YtickphnfgaibiabHf
namespace Go.Proofs.Ytickphnfgaibiab
open Go Go.RowKit
set_option linter.unusedVariables false
set_option linter.unusedSimpArgs false

def b7 : List Q4 := z24q.set 0 (0, 1, 0, 3)
theorem b7_isC : isC b7 := isC_of _ (by decide +kernel)
theorem aw7_facts : (partsC z24q b7).length = 2 ∧ (partsC z24q b7)[0]?.bind (·[0]?) = some (0, 2, 0, 2) ∧ (partsC b7 b7).length = 0 := by
  refine ⟨by decide +kernel, by decide +kernel, by decide +kernel⟩
theorem own_at {w : World} {base : Nat} {e : TypeId} {size : Nat} {v x : Value} {n j : Nat} {xs : List Value} (h : w.ownsRow base e size v n xs) (hj : xs[j]? = some x) : ∃ g cap, v = .slice (some ⟨g, 0, none⟩) n cap ∧ base ≤ g ∧ w.cell? ⟨g, j, none⟩ = some x := by
  have hl := h.1
  have hjl : j < xs.length := (List.getElem?_eq_some_iff.1 hj).1
  rcases h.2 with ⟨rfl, rfl⟩ | ⟨g, cap, cur, rfl, hb, hg, h1, h2, h3, h4⟩
  · omega
  · refine ⟨g, cap, rfl, hb, ?_⟩
    rw [cell_of_row w g j _ e _ hg]
    rw [← h4, List.getElem?_take] at hj
    split at hj
    · simpa using hj
    · cases hj
theorem flat_first {L : List (List Q4)} {a b c d : Nat} (h : L[0]?.bind (·[0]?) = some (a, b, c, d)) : (L.flatMap tdc)[1]? = some (.int .u64 (b : Int)) := by
  cases L with
  | nil => simp at h
  | cons p r =>
    cases p with
    | nil => simp at h
    | cons q l =>
      have : q = (a, b, c, d) := by simpa using h
      subst this
      simp [tdc]
theorem neq_nilF (gf : Nat) (lb : Array Value) (w : World) : Sem.run Try.prog (binOp BinOp.neq 31 (.func (.func gf) #[] lb) .nilFunc) w = .ok (.bool true) w := by rfl
theorem eq_nilF (gf : Nat) (lb : Array Value) (w : World) : Sem.run Try.prog (binOp BinOp.eql 31 (.func (.func gf) #[] lb) .nilFunc) w = .ok (.bool false) w := by rfl
theorem keepV1 {w0 wa wb : World} {g1 : Nat} {c1 : List Value} (k : Below wa.heap.size wa wb) (h : wa.rangeAt g1 0 c1 ∧ Below w0.heap.size w0 wa) : wb.rangeAt g1 0 c1 ∧ Below w0.heap.size w0 wb :=
  ⟨range_later h.1 k, h.2.trans (k.mono h.2.size)⟩
theorem keepV2 {w0 wa wb : World} {g1 : Nat} {c1 : List Value} {p : Addr} {x : Value} (k : Below wa.heap.size wa wb) (h : wa.rangeAt g1 0 c1 ∧ wa.cell? p = some x ∧ Below w0.heap.size w0 wa) : wb.rangeAt g1 0 c1 ∧ wb.cell? p = some x ∧ Below w0.heap.size w0 wb :=
  ⟨range_later h.1 k, cell_later k h.2.1, h.2.2.trans (k.mono h.2.2.size)⟩

set_option maxRecDepth 100000 in
set_option maxHeartbeats 4000000 in
theorem awake7_any (w : World) :
    Calls Try.prog 8 #[] w fun e w' => e = .returned (.bool true) ∧ Below w.heap.size w w' := by
  obtain ⟨f1, f2, f3⟩ := aw7_facts
  have q9 : Hid (∀ w, Calls Try.prog 24 #[] w fun e w' => e = .returned (.agg (tdc z24q).toArray) ∧ Below w.heap.size w w') := hide_ (fun w => call_any w)
  have qL1 : Hid (∀ w, Calls Try.prog 10 #[.agg (tdc z24q).toArray, .agg (tdc b7).toArray] w fun e w' => ∃ g cap, e = .returned (.slice (some ⟨g, 0, none⟩) 2 cap) ∧ w'.cell? ⟨g, 1, none⟩ = some (.int .u64 2) ∧ Below w.heap.size w w') := hide_ (fun w => (clist_any z24q b7 z24q_isC b7_isC w).mono (by
    rintro e w' ⟨u, rfl, ho, b⟩
    obtain ⟨g, cap, rfl, -, hc⟩ := own_at ho (flat_first f2)
    rw [f1]
    exact ⟨g, cap, rfl, hc, b⟩))
  have qL2 : Hid (∀ w, Calls Try.prog 10 #[.agg (tdc b7).toArray, .agg (tdc b7).toArray] w fun e w' => ∃ ad cap, e = .returned (.slice ad 0 cap) ∧ Below w.heap.size w w') := hide_ (fun w => (clist_any b7 b7 b7_isC b7_isC w).mono (by
    rintro e w' ⟨u, rfl, ho, b⟩
    rw [f3] at ho
    obtain ⟨-, ad, cap, rfl, -⟩ := Cells.ofOwn ho
    exact ⟨ad, cap, rfl, b⟩))
  have qM := fun w => cmany_any z24q b7 z24q_isC b7_isC w
  rw [f1] at qM
  have qM : Hid (∀ w, Calls Try.prog 25 #[.agg (tdc z24q).toArray, .agg (tdc b7).toArray] w fun e w' => e = .returned (.int .i64 2) ∧ Below w.heap.size w w') := hide_ qM
  have qP : Hid (∀ w, Calls Try.prog 9 #[.agg (tdc b7).toArray, .agg (tdc b7).toArray] w fun e w' => ∃ gf lb, e = .returned (.func (.func gf) #[] lb) ∧ Below w.heap.size w w') := hide_ (fun w => (parts_any b7 b7 b7_isC b7_isC w).mono (by
    rintro e w' ⟨v, rfl, ⟨gf, lb, rfl, -⟩, b⟩
    exact ⟨gf, lb, rfl, b⟩))
  have hc := hide_ b7_isC.1
  have hnn := fun gf lb w => neq_nilF gf lb w
  have e7 : Hid ((.agg ((((Try.zeroCells28.setIfInBounds 0 (.int .u64 0)).setIfInBounds 1 (.int .u64 1)).setIfInBounds 2 (.int .u64 0)).setIfInBounds 3 (.int .u64 3)) : Value) = .agg (tdc b7).toArray) := hide_ (by rw [zcC]; rfl)
  have e7s : Hid ((.agg (((((tdc z24q).set 0 (.int .u64 0)).set 1 (.int .u64 1)).set 2 (.int .u64 0)).set 3 (.int .u64 3)).toArray : Value) = .agg (tdc b7).toArray) := hide_ rfl
  have hz96 : (tdc z24q).length = 96 := by rw [tdc_length, z24q_len]
  have Z0 : Hid (AB (w.alloc (.cells Try.zeroCells28 28)) w.heap.size 28 (tdc z24q)) := hide_ (by rw [zcC]; exact AB.at0 w 28 (tdc z24q))
  clear f1 f2 f3
  generalize b7 = c at *
  go_enter Try.func8, Try.ntmps8
  go_wp2_with (first | (refine wpList_storeA rfl (.tmp 1) (.tmp 6) rfl w.heap.size (by simp [Act.eval, Act.put]) (tdc z24q) (tdc c) (by rw [tdc_length, tdc_length, hc.out, z24q_len]) (szC hc.out) (tdc_one _) (by first | (simp [Act.eval, Act.put]; exact e7.out) | exact e7.out | (simp [Act.eval, Act.put]; exact e7s.out) | exact e7s.out | (simp [Act.eval, Act.put]; exact Value.agg.inj e7s.out)) Z0.out ?_))
  have R1 := (Z0.out.row (cs' := tdc c)).range
  have BV : Hid (Below w.heap.size w ((w.alloc (.cells Try.zeroCells28 28)).setRow w.heap.size (tdc c).toArray)) := hide_ ((below1 w (.cells Try.zeroCells28 28)).trans (below_row _ _ _ _ (Nat.le_refl _)))
  simp only [Act.put]
  first | rw [e7.out] | rw [e7s.out] | skip
  clear Z0 e7 e7s
  generalize (w.alloc (.cells Try.zeroCells28 28)).setRow w.heap.size (tdc c).toArray = W at *
  refine wp_region_held_drew (S := fun w' => w'.rangeAt w.heap.size 0 (tdc c) ∧ Below W.heap.size W w') (by kernel_rfl) (keepV1 (Below.refl _ _).drew ⟨R1, Below.refl _ _⟩) (fun hHeld => ?_)
  refine takeL Try.underlying28 (i := 1) rfl (by kernel_rfl) (by kernel_rfl) (by kernel_rfl) (some 8) rfl (.tmp 1) rfl (by rfl) w.heap.size rfl (tdc c) (szC hc.out) (fun w h => h.1) (fun _ _ _ h => h) (by assumption) ?_
  simp only [Act.put, List.setIfInBounds_toArray, List.set_cons_zero, List.set_cons_succ]
  refine wpAnyH_ready (rs := [0]) (by kernel_rfl) (by simp) (AllReadyH.cons rfl (fun K hK => ?_) AllReadyH.nil)
  go_simp
  refine (q9.out _).mono ?_
  rintro e w9 ⟨rfl, b9⟩
  refine hK.out _ _ (keepV1 b9 hHeld) (fun hHeld => ?_)
  clear hK K
  try simp only [Act.put, List.setIfInBounds_toArray, List.set_cons_zero, List.set_cons_succ]
  refine wpAnyH_ready (rs := [2]) (by kernel_rfl) (by simp) (AllReadyH.cons rfl (fun K hK => ?_) AllReadyH.nil)
  go_simp
  refine (qL1.out _).mono ?_
  rintro e w9 ⟨g2, cap2, rfl, hcell, b9⟩
  have hcell := hide_ hcell
  refine hK.out _ _ (keepV1 b9 hHeld) (fun hHeld => ?_)
  clear hK K
  try simp only [Act.put, List.setIfInBounds_toArray, List.set_cons_zero, List.set_cons_succ]
  refine takeR (i := 3) (v := ?_) rfl (by kernel_rfl) (by kernel_rfl) (by kernel_rfl) (some 2) rfl (Or.inl ⟨by rfl, ?_⟩) (fun _ _ _ h => h) (by assumption) ?_
  rotate_left
  · intro w hSw; (try dsimp only at hSw); go_simp; (try with_reducible rfl)
  simp only [Act.put, List.setIfInBounds_toArray, List.set_cons_zero, List.set_cons_succ]
  refine wpAnyH_done (by kernel_rfl) ?_ _
  have bel := hHeld.2
  obtain ⟨R2, -⟩ := hHeld
  have BV := hide_ (BV.out.trans (bel.mono BV.out.size))
  clear bel R1 b9
  go_wp2_with fail
  try simp only [Act.put]
  generalize w9 = V at *
  refine wp_region_held_drew (S := fun w' => w'.rangeAt w.heap.size 0 (tdc c) ∧ w'.cell? ⟨g2, 1, none⟩ = some (.int .u64 2) ∧ Below V.heap.size V w') (by kernel_rfl) (keepV2 (Below.refl _ _).drew ⟨R2, hcell.out, Below.refl _ _⟩) (fun hHeld => ?_)
  refine takeR (i := 0) (v := ?_) rfl (by kernel_rfl) (by kernel_rfl) (by kernel_rfl) (some 10) rfl (Or.inl ⟨by rfl, ?_⟩) (fun _ _ _ h => h) (by assumption) ?_
  rotate_left
  · intro w hSw; (try dsimp only at hSw); go_simp; (try with_reducible rfl)
  simp only [Act.put, List.setIfInBounds_toArray, List.set_cons_zero, List.set_cons_succ]
  refine takeR (i := 1) (v := ?_) rfl (by kernel_rfl) (by kernel_rfl) (by kernel_rfl) (some 11) rfl (Or.inl ⟨by rfl, ?_⟩) (fun _ _ _ h => h) (by assumption) ?_
  rotate_left
  · intro w hSw; (try dsimp only at hSw); go_simp; (try with_reducible rfl)
  simp only [Act.put, List.setIfInBounds_toArray, List.set_cons_zero, List.set_cons_succ]
  refine takeR (i := 2) (v := ?_) rfl (by kernel_rfl) (by kernel_rfl) (by kernel_rfl) (some 12) rfl (Or.inl ⟨by rfl, ?_⟩) (fun _ _ _ h => h) (by assumption) ?_
  rotate_left
  · intro w hSw; (try dsimp only at hSw); go_simp; (try with_reducible rfl)
  simp only [Act.put, List.setIfInBounds_toArray, List.set_cons_zero, List.set_cons_succ]
  refine takeR (i := 3) (v := ?_) rfl (by kernel_rfl) (by kernel_rfl) (by kernel_rfl) (some 13) rfl (Or.inl ⟨by rfl, ?_⟩) (fun _ _ _ h => h) (by assumption) ?_
  rotate_left
  · intro w hSw; (try dsimp only at hSw); go_simp; (try with_reducible rfl)
  simp only [Act.put, List.setIfInBounds_toArray, List.set_cons_zero, List.set_cons_succ]
  refine takeR (i := 4) (v := ?_) rfl (by kernel_rfl) (by kernel_rfl) (by kernel_rfl) (some 14) rfl (Or.inl ⟨by rfl, ?_⟩) (fun _ _ _ h => h) (by assumption) ?_
  rotate_left
  · intro w hSw; (try dsimp only at hSw); go_simp; (try with_reducible rfl)
  simp only [Act.put, List.setIfInBounds_toArray, List.set_cons_zero, List.set_cons_succ]
  refine takeR (i := 5) (v := ?_) rfl (by kernel_rfl) (by kernel_rfl) (by kernel_rfl) (some 15) rfl (Or.inl ⟨by rfl, ?_⟩) (fun _ _ _ h => h) (by assumption) ?_
  rotate_left
  · intro w hSw; (try dsimp only at hSw); go_simp; (try with_reducible rfl)
  simp only [Act.put, List.setIfInBounds_toArray, List.set_cons_zero, List.set_cons_succ]
  refine takeR (i := 6) (v := ?_) rfl (by kernel_rfl) (by kernel_rfl) (by kernel_rfl) (some 16) rfl (Or.inl ⟨by rfl, ?_⟩) (fun _ _ _ h => h) (by assumption) ?_
  rotate_left
  · intro w hSw; (try dsimp only at hSw); go_simp; (try with_reducible rfl)
  simp only [Act.put, List.setIfInBounds_toArray, List.set_cons_zero, List.set_cons_succ]
  refine takeR (i := 7) (v := ?_) rfl (by kernel_rfl) (by kernel_rfl) (by kernel_rfl) (some 17) rfl (Or.inl ⟨by rfl, ?_⟩) (fun _ _ _ h => h) (by assumption) ?_
  rotate_left
  · intro w hSw; (try dsimp only at hSw); go_simp; (try with_reducible rfl)
  simp only [Act.put, List.setIfInBounds_toArray, List.set_cons_zero, List.set_cons_succ]
  refine takeR (i := 8) (v := ?_) rfl (by kernel_rfl) (by kernel_rfl) (by kernel_rfl) (some 18) rfl (Or.inl ⟨by rfl, ?_⟩) (fun _ _ _ h => h) (by assumption) ?_
  rotate_left
  · intro w hSw; (try dsimp only at hSw); go_simp; (try with_reducible rfl)
  simp only [Act.put, List.setIfInBounds_toArray, List.set_cons_zero, List.set_cons_succ]
  refine takeR (i := 9) (v := ?_) rfl (by kernel_rfl) (by kernel_rfl) (by kernel_rfl) (some 19) rfl (Or.inl ⟨by rfl, ?_⟩) (fun _ _ _ h => h) (by assumption) ?_
  rotate_left
  · intro w hSw; (try dsimp only at hSw); go_simp; (try with_reducible rfl)
  simp only [Act.put, List.setIfInBounds_toArray, List.set_cons_zero, List.set_cons_succ]
  refine takeR (i := 10) (v := ?_) rfl (by kernel_rfl) (by kernel_rfl) (by kernel_rfl) (some 20) rfl (Or.inl ⟨by rfl, ?_⟩) (fun _ _ _ h => h) (by assumption) ?_
  rotate_left
  · intro w hSw; (try dsimp only at hSw); go_simp; (try with_reducible rfl)
  simp only [Act.put, List.setIfInBounds_toArray, List.set_cons_zero, List.set_cons_succ]
  refine takeR (i := 11) (v := ?_) rfl (by kernel_rfl) (by kernel_rfl) (by kernel_rfl) (some 21) rfl (Or.inl ⟨by rfl, ?_⟩) (fun _ _ _ h => h) (by assumption) ?_
  rotate_left
  · intro w hSw; (try dsimp only at hSw); go_simp; (try with_reducible rfl)
  simp only [Act.put, List.setIfInBounds_toArray, List.set_cons_zero, List.set_cons_succ]
  refine takeR (i := 12) (v := ?_) rfl (by kernel_rfl) (by kernel_rfl) (by kernel_rfl) (some 22) rfl (Or.inl ⟨by rfl, ?_⟩) (fun _ _ _ h => h) (by assumption) ?_
  rotate_left
  · intro w hSw; (try dsimp only at hSw); go_simp; (try with_reducible rfl)
  simp only [Act.put, List.setIfInBounds_toArray, List.set_cons_zero, List.set_cons_succ]
  refine takeL Try.underlying28 (i := 14) rfl (by kernel_rfl) (by kernel_rfl) (by kernel_rfl) (some 24) rfl (.tmp 1) rfl (by rfl) w.heap.size rfl (tdc c) (szC hc.out) (fun w h => h.1) (fun _ _ _ h => h) (by assumption) ?_
  simp only [Act.put, List.setIfInBounds_toArray, List.set_cons_zero, List.set_cons_succ]
  refine wpAnyH_ready (rs := [13]) (by kernel_rfl) (by simp) (AllReadyH.cons rfl (fun K hK => ?_) AllReadyH.nil)
  go_simp
  refine (q9.out _).mono ?_
  rintro e w9 ⟨rfl, b9⟩
  refine hK.out _ _ (keepV2 b9 hHeld) (fun hHeld => ?_)
  clear hK K
  try simp only [Act.put, List.setIfInBounds_toArray, List.set_cons_zero, List.set_cons_succ]
  refine wpAnyH_ready (rs := [15]) (by kernel_rfl) (by simp) (AllReadyH.cons rfl (fun K hK => ?_) AllReadyH.nil)
  go_simp
  refine (qM.out _).mono ?_
  rintro e w9 ⟨rfl, b9⟩
  refine hK.out _ _ (keepV2 b9 hHeld) (fun hHeld => ?_)
  clear hK K
  try simp only [Act.put, List.setIfInBounds_toArray, List.set_cons_zero, List.set_cons_succ]
  refine takeR (i := 16) (v := ?_) rfl (by kernel_rfl) (by kernel_rfl) (by kernel_rfl) (some 26) rfl (Or.inl ⟨by rfl, ?_⟩) (fun _ _ _ h => h) (by assumption) ?_
  rotate_left
  · intro w hSw; (try dsimp only at hSw); go_simp; (try with_reducible rfl)
  simp only [Act.put, List.setIfInBounds_toArray, List.set_cons_zero, List.set_cons_succ]
  refine takeR (i := 17) (v := ?_) rfl (by kernel_rfl) (by kernel_rfl) (by kernel_rfl) (some 27) rfl (Or.inl ⟨by rfl, ?_⟩) (fun _ _ _ h => h) (by assumption) ?_
  rotate_left
  · intro w hSw; (try dsimp only at hSw); go_simp; (try with_reducible rfl)
  simp only [Act.put, List.setIfInBounds_toArray, List.set_cons_zero, List.set_cons_succ]
  refine takeR (i := 18) (v := ?_) rfl (by kernel_rfl) (by kernel_rfl) (by kernel_rfl) (some 28) rfl (Or.inl ⟨by rfl, ?_⟩) (fun _ _ _ h => h) (by assumption) ?_
  rotate_left
  · intro w hSw; (try dsimp only at hSw); go_simp; (try with_reducible rfl)
  simp only [Act.put, List.setIfInBounds_toArray, List.set_cons_zero, List.set_cons_succ]
  refine takeL Try.underlying28 (i := 19) rfl (by kernel_rfl) (by kernel_rfl) (by kernel_rfl) (some 29) rfl (.tmp 1) rfl (by rfl) w.heap.size rfl (tdc c) (szC hc.out) (fun w h => h.1) (fun _ _ _ h => h) (by assumption) ?_
  simp only [Act.put, List.setIfInBounds_toArray, List.set_cons_zero, List.set_cons_succ]
  refine takeL Try.underlying28 (i := 20) rfl (by kernel_rfl) (by kernel_rfl) (by kernel_rfl) (some 30) rfl (.tmp 1) rfl (by rfl) w.heap.size rfl (tdc c) (szC hc.out) (fun w h => h.1) (fun _ _ _ h => h) (by assumption) ?_
  simp only [Act.put, List.setIfInBounds_toArray, List.set_cons_zero, List.set_cons_succ]
  refine wpAnyH_ready (rs := [21]) (by kernel_rfl) (by simp) (AllReadyH.cons rfl (fun K hK => ?_) AllReadyH.nil)
  go_simp
  refine (qL2.out _).mono ?_
  rintro e w9 ⟨ad3, cap3, rfl, b9⟩
  refine hK.out _ _ (keepV2 b9 hHeld) (fun hHeld => ?_)
  clear hK K
  try simp only [Act.put, List.setIfInBounds_toArray, List.set_cons_zero, List.set_cons_succ]
  refine takeR (i := 22) (v := ?_) rfl (by kernel_rfl) (by kernel_rfl) (by kernel_rfl) (some 32) rfl (Or.inl ⟨by rfl, ?_⟩) (fun _ _ _ h => h) (by assumption) ?_
  rotate_left
  · intro w hSw; (try dsimp only at hSw); go_simp; (try with_reducible rfl)
  simp only [Act.put, List.setIfInBounds_toArray, List.set_cons_zero, List.set_cons_succ]
  refine takeR (i := 23) (v := ?_) rfl (by kernel_rfl) (by kernel_rfl) (by kernel_rfl) (some 33) rfl (Or.inl ⟨by rfl, ?_⟩) (fun _ _ _ h => h) (by assumption) ?_
  rotate_left
  · intro w hSw; (try dsimp only at hSw); go_simp; (try with_reducible rfl)
  simp only [Act.put, List.setIfInBounds_toArray, List.set_cons_zero, List.set_cons_succ]
  refine takeR (i := 24) (v := ?_) rfl (by kernel_rfl) (by kernel_rfl) (by kernel_rfl) (some 34) rfl (Or.inl ⟨by rfl, ?_⟩) (fun _ _ _ h => h) (by assumption) ?_
  rotate_left
  · intro w hSw; (try dsimp only at hSw); go_simp; (try with_reducible rfl)
  simp only [Act.put, List.setIfInBounds_toArray, List.set_cons_zero, List.set_cons_succ]
  refine takeR (i := 25) (v := ?_) rfl (by kernel_rfl) (by kernel_rfl) (by kernel_rfl) (some 35) rfl (Or.inl ⟨by rfl, ?_⟩) (fun _ _ _ h => h) (by assumption) ?_
  rotate_left
  · intro w hSw; (try dsimp only at hSw); go_simp; (try with_reducible rfl)
  simp only [Act.put, List.setIfInBounds_toArray, List.set_cons_zero, List.set_cons_succ]
  refine takeL Try.underlying28 (i := 26) rfl (by kernel_rfl) (by kernel_rfl) (by kernel_rfl) (some 36) rfl (.tmp 1) rfl (by rfl) w.heap.size rfl (tdc c) (szC hc.out) (fun w h => h.1) (fun _ _ _ h => h) (by assumption) ?_
  simp only [Act.put, List.setIfInBounds_toArray, List.set_cons_zero, List.set_cons_succ]
  refine takeL Try.underlying28 (i := 27) rfl (by kernel_rfl) (by kernel_rfl) (by kernel_rfl) (some 37) rfl (.tmp 1) rfl (by rfl) w.heap.size rfl (tdc c) (szC hc.out) (fun w h => h.1) (fun _ _ _ h => h) (by assumption) ?_
  simp only [Act.put, List.setIfInBounds_toArray, List.set_cons_zero, List.set_cons_succ]
  refine wpAnyH_ready (rs := [28]) (by kernel_rfl) (by simp) (AllReadyH.cons rfl (fun K hK => ?_) AllReadyH.nil)
  go_simp
  refine (qP.out _).mono ?_
  rintro e w9 ⟨gf, lb, rfl, b9⟩
  refine hK.out _ _ (keepV2 b9 hHeld) (fun hHeld => ?_)
  clear hK K
  try simp only [Act.put, List.setIfInBounds_toArray, List.set_cons_zero, List.set_cons_succ]
  refine takeR (i := 29) (v := ?_) rfl (by kernel_rfl) (by kernel_rfl) (by kernel_rfl) (some 39) rfl (Or.inl ⟨by rfl, ?_⟩) (fun _ _ _ h => h) (by assumption) ?_
  rotate_left
  · intro w hSw; (try dsimp only at hSw); go_simp; (try with_reducible rfl)
  simp only [Act.put, List.setIfInBounds_toArray, List.set_cons_zero, List.set_cons_succ]
  refine takeR (i := 30) (v := ?_) rfl (by kernel_rfl) (by kernel_rfl) (by kernel_rfl) (some 40) rfl (Or.inl ⟨by rfl, ?_⟩) (fun _ _ _ h => h) (by assumption) ?_
  rotate_left
  · intro w hSw; (try dsimp only at hSw); go_simp; (try with_reducible rfl)
  simp only [Act.put, List.setIfInBounds_toArray, List.set_cons_zero, List.set_cons_succ]
  refine takeR (i := 31) (v := ?_) rfl (by kernel_rfl) (by kernel_rfl) (by kernel_rfl) (some 0) rfl (Or.inl ⟨by rfl, ?_⟩) (fun _ _ _ h => h) (by assumption) ?_
  rotate_left
  · intro w hSw; (try dsimp only at hSw); go_simp; (try with_reducible rfl)
  simp only [Act.put, List.setIfInBounds_toArray, List.set_cons_zero, List.set_cons_succ]
  refine wpAnyH_done (by kernel_rfl) ?_ _
  have bel := hHeld.2.2
  clear hHeld
  go_wp2_with fail
  go_ret
  exact ⟨rfl, BV.out.trans (bel.mono BV.out.size)⟩

end Go.Proofs.Ytickphnfgaibiab
