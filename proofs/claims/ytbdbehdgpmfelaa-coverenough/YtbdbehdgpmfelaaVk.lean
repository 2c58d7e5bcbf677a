import Derived.Test.YtbdbehdgpmfelaaVj
import Derived.Test.YtbdbehdgpmfelaaQe
import Derived.Test.YtbdbehdgpmfelaaXd
namespace Go.Proofs.Ytbdbehdgpmfelaa
open Go Go.RowKit
set_option linter.unusedVariables false
set_option linter.unusedSimpArgs false

theorem takeM {P : Program} {ty e : TypeId} {n : Nat} (hu : P.underlying ty = some (.array n e)) {ops : Array Oper} {Q : Exit → Act → World → Prop} {S : World → Prop} {md : Region.Mode} {fuel : Nat} {listed : Array Bool} {a : Act} {w : World} {i : Nat} {oi : Oper} (hi : ops[i]? = some oi)
    (hs : Region.noSelect ops = true) (hf : Region.free md ops listed i = true) (hr : (Region.ready md ops listed).contains i = true)
    (d : Option Tmp) (hd : oi.dst = d) (x : Operand) (ho : oi.op = .load ty x) (hw : Region.wanted oi (yielded ops a.tmps) = true) (g o : Nat) (hx : a.eval x = .pointer (some ⟨g, o, none⟩)) (cs : List Value) (hz : (P.info? ty).map (·.size) = some cs.length) (hS : ∀ w, S w → w.rangeAt g o cs)
    (hQ : ∀ c a w, Q (.panic c) (a.put d (.agg cs.toArray)) w → Q (.panic c) a w) (h0 : S w)
    (h : wpAnyH P md ops Q S fuel (listed.setIfInBounds i true) (a.put d (.agg cs.toArray)) w) : wpAnyH P md ops Q S (fuel + 1) listed a w := by
  subst hd
  exact wpAnyH_take hi hs hf hr hQ (yieldsIf_load_mid hw ty x ho g o hx cs _ hS hu rfl hz) h0 h
theorem keepE {w0 wa wb : World} {g1 g2 o1 o2 : Nat} {c1 c2 : List Value} (k : Below wa.heap.size wa wb) (h : wa.rangeAt g1 o1 c1 ∧ wa.rangeAt g2 o2 c2 ∧ Below w0.heap.size w0 wa) : wb.rangeAt g1 o1 c1 ∧ wb.rangeAt g2 o2 c2 ∧ Below w0.heap.size w0 wb :=
  ⟨range_later h.1 k, range_later h.2.1 k, h.2.2.trans (k.mono h.2.2.size)⟩
theorem Cells.at2 {w : World} {a : Option Addr} {n m cap size : Nat} {xs : List Value} (h : Cells w (.slice a m cap) size n xs) : m = n ∧ n ≤ maxLen ∧ xs.length = n * size ∧ ∀ j u, xs[j]? = some u → ∃ b off, a = some ⟨b, off, none⟩ ∧ w.cell? ⟨b, off + j, none⟩ = some u := by
  obtain ⟨h0, a', cap', e, h1, h2, h3, h4⟩ := h
  cases e
  refine ⟨rfl, Nat.le_trans h1 h2, h0, fun j u hu => ?_⟩
  have hj : j < xs.length := (List.getElem?_eq_some_iff.1 hu).1
  cases a with
  | none =>
    have := h3 rfl
    subst this
    have : n = 0 := by omega
    subst this
    omega
  | some ad =>
    have hc := h4 ad rfl j u hu
    obtain ⟨b, off, spot⟩ := ad
    have hspot : spot = none := by
      have hc0 := h4 _ rfl 0 xs[0] (List.getElem?_eq_getElem (by omega))
      simpa [Addr.add] using World.cell?_spot hc0
    subst hspot
    exact ⟨b, off, rfl, by rw [Addr.add_lit] at hc; exact hc⟩
/-- a slice of cubes -/
def CubesAt (w : World) (v : Value) (L : List (List Q4)) : Prop := Cells w v 96 L.length (L.flatMap tdc) ∧ ∀ x ∈ L, isC x
theorem CubesAt.later {w w' : World} {v : Value} {L : List (List Q4)} (h : CubesAt w v L) (hb : Below w.heap.size w w') : CubesAt w' v L := ⟨h.1.later hb, h.2⟩
theorem CubesAt.form {w : World} {v : Value} {L : List (List Q4)} (h : CubesAt w v L) : ∃ ad cap, v = .slice ad L.length cap ∧ L.length ≤ cap ∧ cap ≤ maxLen := by
  obtain ⟨⟨-, ad, cap, rfl, h1, h2, -⟩, -⟩ := h
  exact ⟨ad, cap, rfl, h1, h2⟩
theorem CubesAt.range {w : World} {ad : Option Addr} {n cap j : Nat} {L : List (List Q4)} {x : List Q4} (h : CubesAt w (.slice ad n cap) L) (hj : L[j]? = some x) : ∃ b o, ad = some ⟨b, o, none⟩ ∧ w.rangeAt b (o + j * 96) (tdc x) := by
  have hx := lenC (h.2 x (List.mem_of_getElem? hj))
  have hf := fun k (hk : k < 96) => flat_at L j k x (fun y hy => lenC (h.2 y hy)) hj hk
  obtain ⟨-, -, -, hc⟩ := Cells.at2 h.1
  have h0 : ((tdc x)[0]?).isSome := by rw [List.getElem?_eq_getElem (by omega)]; rfl
  obtain ⟨v0, hv0⟩ := Option.isSome_iff_exists.1 h0
  obtain ⟨b, o, rfl, -⟩ := hc _ _ ((hf 0 (by omega)).trans hv0)
  refine ⟨b, o, rfl, fun k u hu => ?_⟩
  have hk : k < 96 := by have := (List.getElem?_eq_some_iff.1 hu).1; omega
  obtain ⟨b', o', e1, hcc⟩ := hc _ _ ((hf k hk).trans hu)
  cases e1
  rw [Nat.add_assoc]; exact hcc

set_option maxRecDepth 100000 in
set_option maxHeartbeats 4000000 in
theorem cequal_same (u v : Value) (L : List (List Q4)) (w : World) (hu : CubesAt w u L) (hv : CubesAt w v L) :
    Calls Try.prog 11 #[u, v] w fun e w' => e = .returned (.bool true) ∧ Below w.heap.size w w' := by
  obtain ⟨ad, cap, rfl, h1, h2⟩ := hu.form
  obtain ⟨ad2, cap2, rfl, h3, h4⟩ := hv.form
  have HU := hide_ hu
  have HV := hide_ hv
  unfold maxLen at h2
  obtain ⟨nn, hnn⟩ : ∃ nn, L.length = nn := ⟨_, rfl⟩
  rw [hnn] at HU HV h1 h3 ⊢
  have HNN := hide_ hnn
  have heq0 : ((nn : Int) != (nn : Int)) = false := by simp
  clear hnn hu hv h3 h4
  obtain ⟨hz0, -⟩ := zero_of_info zC'
  go_enter Try.func11, Try.ntmps11
  go_wp2_with fail
  go_loopw [5, 13] (fun _ i wr => ∃ j : Nat, j ≤ nn ∧ i = .int .i64 (j : Int) ∧ Below w.heap.size w wr) (fun _ i _ => nn - (intOf i).toNat)
  case atStart => exact ⟨0, by omega, rfl, Below.refl _ _⟩
  case round =>
    obtain ⟨j, hj, rfl, hb⟩ := hrel
    by_cases hlt : j < nn
    · have hlt' : (j : Int) < (nn : Int) := by omega
      have hj0 : (0 : Int) ≤ (j : Int) := by omega
      obtain ⟨x, hx⟩ : ∃ x, L[j]? = some x := ⟨_, List.getElem?_eq_getElem (by have := HNN.out; omega)⟩
      have hlx := hide_ (HU.out.2 x (List.mem_of_getElem? hx)).1
      obtain ⟨b1, o1, e1, r1⟩ := (HU.out.later hb).range hx
      obtain ⟨b2, o2, e2, r2⟩ := (HV.out.later hb).range hx
      subst e1
      subst e2
      have heq := fun w => run_ceqIn x x hlx.out hlx.out w
      rw [decide_eq_true rfl] at heq
      clear hx
      go_wp2_with fail
      try simp only [Act.put]
      refine wp_region_held_drew (S := fun w' => w'.rangeAt b1 (o1 + j * 96) (tdc x) ∧ w'.rangeAt b2 (o2 + j * 96) (tdc x) ∧ Below w.heap.size w w') (by kernel_rfl) (keepE (Below.refl _ _).drew ⟨r1, r2, hb⟩) (fun hHeld => ?_)
      refine takeR (i := 0) (v := ?_) rfl (by kernel_rfl) (by kernel_rfl) (by kernel_rfl) (some 16) rfl (Or.inl ⟨by rfl, ?_⟩) (fun _ _ _ h => h) (by assumption) ?_
      rotate_left
      · intro w hSw; (try dsimp only at hSw); go_simp; (try with_reducible rfl)
      simp only [Act.put, List.setIfInBounds_toArray, List.set_cons_zero, List.set_cons_succ]
      refine takeR (i := 1) (v := ?_) rfl (by kernel_rfl) (by kernel_rfl) (by kernel_rfl) (some 17) rfl (Or.inl ⟨by rfl, ?_⟩) (fun _ _ _ h => h) (by assumption) ?_
      rotate_left
      · intro w hSw; (try dsimp only at hSw); go_simp; (try with_reducible rfl)
      simp only [Act.put, List.setIfInBounds_toArray, List.set_cons_zero, List.set_cons_succ]
      refine takeR (i := 2) (v := ?_) rfl (by kernel_rfl) (by kernel_rfl) (by kernel_rfl) (some 18) rfl (Or.inl ⟨by rfl, ?_⟩) (fun _ _ _ h => h) (by assumption) ?_
      rotate_left
      · intro w hSw; (try dsimp only at hSw); go_simp; (try with_reducible rfl)
      simp only [Act.put, List.setIfInBounds_toArray, List.set_cons_zero, List.set_cons_succ]
      refine takeM Try.underlying28 (i := 3) rfl (by kernel_rfl) (by kernel_rfl) (by kernel_rfl) (some 19) rfl (.tmp 18) rfl (by rfl) b1 (o1 + j * 96) rfl (tdc x) (szC hlx.out) (fun w h => h.1) (fun _ _ _ h => h) (by assumption) ?_
      simp only [Act.put, List.setIfInBounds_toArray, List.set_cons_zero, List.set_cons_succ]
      refine takeR (i := 4) (v := ?_) rfl (by kernel_rfl) (by kernel_rfl) (by kernel_rfl) (some 20) rfl (Or.inl ⟨by rfl, ?_⟩) (fun _ _ _ h => h) (by assumption) ?_
      rotate_left
      · intro w hSw; (try dsimp only at hSw); go_simp; (try with_reducible rfl)
      simp only [Act.put, List.setIfInBounds_toArray, List.set_cons_zero, List.set_cons_succ]
      refine takeR (i := 5) (v := ?_) rfl (by kernel_rfl) (by kernel_rfl) (by kernel_rfl) (some 21) rfl (Or.inl ⟨by rfl, ?_⟩) (fun _ _ _ h => h) (by assumption) ?_
      rotate_left
      · intro w hSw; (try dsimp only at hSw); go_simp; (try with_reducible rfl)
      simp only [Act.put, List.setIfInBounds_toArray, List.set_cons_zero, List.set_cons_succ]
      refine takeR (i := 6) (v := ?_) rfl (by kernel_rfl) (by kernel_rfl) (by kernel_rfl) (some 22) rfl (Or.inl ⟨by rfl, ?_⟩) (fun _ _ _ h => h) (by assumption) ?_
      rotate_left
      · intro w hSw; (try dsimp only at hSw); go_simp; (try with_reducible rfl)
      simp only [Act.put, List.setIfInBounds_toArray, List.set_cons_zero, List.set_cons_succ]
      refine takeM Try.underlying28 (i := 7) rfl (by kernel_rfl) (by kernel_rfl) (by kernel_rfl) (some 23) rfl (.tmp 22) rfl (by rfl) b2 (o2 + j * 96) rfl (tdc x) (szC hlx.out) (fun w h => h.2.1) (fun _ _ _ h => h) (by assumption) ?_
      simp only [Act.put, List.setIfInBounds_toArray, List.set_cons_zero, List.set_cons_succ]
      refine takeR (i := 8) (v := ?_) rfl (by kernel_rfl) (by kernel_rfl) (by kernel_rfl) (some 24) rfl (Or.inl ⟨by rfl, ?_⟩) (fun _ _ _ h => h) (by assumption) ?_
      rotate_left
      · intro w hSw; (try dsimp only at hSw); go_simp; (try with_reducible rfl)
      simp only [Act.put, List.setIfInBounds_toArray, List.set_cons_zero, List.set_cons_succ]
      refine wpAnyH_done (by kernel_rfl) ?_ _
      have bel := hHeld.2.2
      clear hHeld r1 r2
      go_wp2_with fail
      go_roundw
      case rel => exact ⟨j + 1, by omega, by go_num, bel⟩
      case measure => simp [intOf]; omega
    · have hlt' : ¬ (j : Int) < (nn : Int) := by omega
      go_wp2_with fail
      go_ret
      exact ⟨rfl, hb⟩

end Go.Proofs.Ytbdbehdgpmfelaa
