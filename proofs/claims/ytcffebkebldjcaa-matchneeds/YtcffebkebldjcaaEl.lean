import Derived.Test.YtcffebkebldjcaaEa
import Derived.Test.YtcffebkebldjcaaOd
import Derived.Test.YtcffebkebldjcaaXk
import Derived.Test.YtcffebkebldjcaaEi
import Derived.Deep.RegionHeld3
import Derived.Deep.RegionWith
import Derived.Deep.MidRow
import Derived.Deep.Cut
namespace Go.Proofs.Ytcffebkebldjcaa
open Go Go.RowKit
set_option linter.unusedVariables false
set_option linter.unusedSimpArgs false

def ternQ (o : O6) : Q4 := if o.2.1 then (o.2.2.1, o.2.2.2.1, o.2.2.2.2.1, o.2.2.2.2.2) else (o.2.2.1, o.2.2.2.1, LH o.1, LL o.1)
def cubeStep (c : List Q4) (o : O6) : List Q4 := if fok o.1 then c.set o.1.toNat (ternQ o) else c
def cubeL (L : List O6) : List Q4 := L.foldl cubeStep z24q
theorem cubeL_len (L : List O6) : (cubeL L).length = 24 := by
  have key : ∀ (L : List O6) (c : List Q4), c.length = 24 → (L.foldl cubeStep c).length = 24 := by
    intro L
    induction L with
    | nil => intro c h; exact h
    | cons o r ih =>
      intro c h
      refine ih _ ?_
      unfold cubeStep
      split
      · simp [h]
      · exact h
  exact key L z24q z24q_len
theorem cubeL_snoc (L : List O6) (o : O6) : cubeL (L ++ [o]) = cubeStep (cubeL L) o := by simp [cubeL]
theorem otern_ok (f : Int) (m : Bool) (a b c d : Nat) (h : fok f = true) (w : World) :
    Calls Try.prog 44 #[ov f m a b c d] w fun e w' => e = .returned (td (ternQ (f, m, a, b, c, d)).1 (ternQ (f, m, a, b, c, d)).2.1 (ternQ (f, m, a, b, c, d)).2.2.1 (ternQ (f, m, a, b, c, d)).2.2.2) ∧ Below w.heap.size w w' := by
  have := otern_any f m a b c d w
  rw [h] at this
  cases m
  · exact this
  · exact this

theorem far4c {w : World} {g h a b c d j : Nat} {x y z u v : Value} (hc : w.cell? ⟨h, j, none⟩ = some v) (hne : g ≠ h) : ((((w.setCell ⟨g, a, none⟩ x).setCell ⟨g, b, none⟩ y).setCell ⟨g, c, none⟩ z).setCell ⟨g, d, none⟩ u).cell? ⟨h, j, none⟩ = some v := by
  rw [World.cell?_setCell_far _ ⟨g, d, none⟩ _ _ hne, World.cell?_setCell_far _ ⟨g, c, none⟩ _ _ hne, World.cell?_setCell_far _ ⟨g, b, none⟩ _ _ hne, World.cell?_setCell_far _ ⟨g, a, none⟩ _ _ hne]
  exact hc
theorem AB.far4x {w : World} {g h a b c d : Nat} {ty : TypeId} {cs : List Value} (k : AB w g ty cs) (hne : g ≠ h) (x y z u : Value) : AB ((((w.setCell ⟨h, a, none⟩ x).setCell ⟨h, b, none⟩ y).setCell ⟨h, c, none⟩ z).setCell ⟨h, d, none⟩ u) g ty cs := (((k.far x hne).far y hne).far z hne).far u hne

set_option maxRecDepth 100000 in
set_option maxHeartbeats 8000000 in
theorem mcube_any (v : Value) (L : List O6) (w : World) (hL : OxAt w v L) :
    Calls Try.prog 16 #[v] w fun e w' => e = .returned (.agg (tdc (cubeL L)).toArray) ∧ Below w.heap.size w w' := by
  obtain ⟨s, cap, rfl, h1, h2, h3, h4⟩ := hL
  have HC := hide_ h4
  have hm : L.length ≤ 9223372036854775807 := by unfold maxLen at h2; omega
  clear h1 h2 h3 h4
  have q1 := hide_ (fun w => call_any w)
  unfold cv at q1
  have R0 := hide_ (AB.at0 w 39 (tdc z24q))
  have B0 := hide_ (below1 w (.cells (tdc z24q).toArray 39))
  obtain ⟨hz0, -⟩ := zero_of_info zC'
  go_enter Try.func16, Try.ntmps16
  go_wp2_with (first | (go_at_call 42; refine (q1.out _).mono ?_; rintro e w1 ⟨rfl, b1⟩; have Z1 := hide_ (AB.at0 w1 39 (tdc z24q))) | (refine wpList_storeA rfl (.tmp 3) (.tmp 6) rfl w1.heap.size (by simp [Act.eval, Act.put]) (tdc z24q) (tdc z24q) rfl (szC z24q_len) (tdc_one _) (by simp [Act.eval, Act.put]) Z1.out ?_))
  have hgc : w.heap.size < w1.heap.size := Nat.lt_of_lt_of_le (by simp) b1.size
  have WC := hide_ (Z1.out.row (cs' := tdc z24q))
  have WR := hide_ (((R0.out.later b1).alloc (.cells (tdc z24q).toArray 39)).row_far (f := w1.heap.size) (tdc z24q).toArray (by omega))
  have WB := hide_ ((B0.out.trans (b1.mono B0.out.size)).trans ((below1 w1 (.cells (tdc z24q).toArray 39)).mono (Nat.le_of_lt hgc)))
  have WB := hide_ (WB.out.trans (below_row _ _ _ (tdc z24q).toArray (Nat.le_of_lt hgc)))
  generalize (w1.alloc (.cells (tdc z24q).toArray 39)).setRow w1.heap.size (tdc z24q).toArray = V at *
  generalize w1.heap.size = gc at *
  clear Z1 b1
  go_loopw [9] (fun i wr => ∃ k : Nat, k ≤ L.length ∧ i = .int .i64 k ∧ Hid (AB wr gc 39 (tdc (cubeL (L.take k)))) ∧ Hid (AB wr w.heap.size 39 (tdc z24q)) ∧ Hid (Below w.heap.size w wr)) (fun i _ => L.length - (intOf i).toNat)
  case atStart => exact ⟨0, Nat.zero_le _, rfl, WC, WR, WB⟩
  case round =>
    obtain ⟨k, hk, rfl, HQ, HR, KB⟩ := hrel
    rename World => wo
    by_cases hlt : k < L.length
    · obtain ⟨⟨of, om, oa, ob, oc, od⟩, hz⟩ : ∃ z, L[k]? = some z := ⟨_, List.getElem?_eq_getElem hlt⟩
      obtain ⟨q, off, rfl, d0, d1, d2, d3, d4, d5⟩ := HC.out k of om oa ob oc od hz
      have d0 := cell_later KB.out d0
      have d1 := cell_later KB.out d1
      have d2 := cell_later KB.out d2
      have d3 := cell_later KB.out d3
      have d4 := cell_later KB.out d4
      have d5 := cell_later KB.out d5
      have hcs : cubeL (L.take (k + 1)) = cubeStep (cubeL (L.take k)) (of, om, oa, ob, oc, od) := by rw [List.take_add_one, hz]; exact cubeL_snoc _ _
      have HS := hide_ hcs
      clear hz hcs
      have hlt' : (k : Int) < (L.length : Int) := by omega
      have BO := hide_ (below1 wo (.cells #[.int .i64 of, .bool om, .int .u64 (oa : Int), .int .u64 (ob : Int), .int .u64 (oc : Int), .int .u64 (od : Int)] 51))
      have KO := hide_ (KB.out.trans (BO.out.mono KB.out.size))
      obtain ⟨o0, o1, o2, o3, o4, o5, -⟩ := (AB.at0 wo 51 [.int .i64 of, .bool om, .int .u64 (oa : Int), .int .u64 (ob : Int), .int .u64 (oc : Int), .int .u64 (od : Int)]).six
      have qf := fun w => fright_any of w
      cases hf : fok of
      · rw [hf] at qf
        have qf := hide_ qf
        have HF := hide_ hf
        clear hf
        go_wp2_with (go_at_call 43; refine (qf.out _).mono ?_; rintro e w5 ⟨rfl, rfl⟩)
        go_roundw
        case rel =>
          refine ⟨k + 1, by omega, by go_num, ?_, hide_ (HR.out.later BO.out), KO⟩
          have e : cubeStep (cubeL (L.take k)) (of, om, oa, ob, oc, od) = cubeL (L.take k) := by unfold cubeStep; rw [if_neg (by rw [HF.out]; decide)]
          rw [HS.out, e]
          exact hide_ (HQ.out.later BO.out)
        case measure => simp [intOf]; omega
      · rw [hf] at qf
        have qf := hide_ qf
        have hfr : 0 ≤ of ∧ of < 24 := by unfold fok at hf; simpa using hf
        obtain ⟨jf, hjf⟩ : ∃ jf : Nat, of = (jf : Int) := ⟨of.toNat, by omega⟩
        have hj24 : jf < 24 := by omega
        have qt := hide_ (fun w => otern_ok of om oa ob oc od hf w)
        have HF := hide_ hf
        unfold ov td at qt
        generalize hTQ : ternQ (of, om, oa, ob, oc, od) = TQ at *
        obtain ⟨t0, t1, t2, t3⟩ := TQ
        dsimp only at qt
        have HT := hide_ hTQ
        clear hf hTQ hfr
        subst hjf
        go_wp2_with (go_at_call 43; refine (qf.out _).mono ?_; rintro e w5 ⟨rfl, rfl⟩)
        have hgl := HQ.out.lt
        have hne : gc ≠ wo.heap.size := by omega
        have hgw : w.heap.size ≤ gc := by omega
        have i24 : (jf : Int) < 24 := by omega
        refine wp_region_held_drew (S := (fun w' => w'.cell? ⟨wo.heap.size, 0, none⟩ = some (.int .i64 (jf : Int)) ∧ w'.cell? ⟨wo.heap.size, 1, none⟩ = some (.bool om) ∧ w'.cell? ⟨wo.heap.size, 2, none⟩ = some (.int .u64 (oa : Int)) ∧ w'.cell? ⟨wo.heap.size, 3, none⟩ = some (.int .u64 (ob : Int)) ∧ w'.cell? ⟨wo.heap.size, 4, none⟩ = some (.int .u64 (oc : Int)) ∧ w'.cell? ⟨wo.heap.size, 5, none⟩ = some (.int .u64 (od : Int)) ∧ Below w.heap.size w w')) (by kernel_rfl) (⟨o0, o1, o2, o3, o4, o5, KO.out.drew⟩) (fun hHeld => ?_)
        have kd : Below (wo.alloc (.cells #[.int .i64 (jf : Int), .bool om, .int .u64 (oa : Int), .int .u64 (ob : Int), .int .u64 (oc : Int), .int .u64 (od : Int)] 51)).heap.size (wo.alloc (.cells #[.int .i64 (jf : Int), .bool om, .int .u64 (oa : Int), .int .u64 (ob : Int), .int .u64 (oc : Int), .int .u64 (od : Int)] 51)) (wo.alloc (.cells #[.int .i64 (jf : Int), .bool om, .int .u64 (oa : Int), .int .u64 (ob : Int), .int .u64 (oc : Int), .int .u64 (od : Int)] 51)).drew := (Below.refl _ _).drew
        generalize (wo.alloc (.cells #[.int .i64 (jf : Int), .bool om, .int .u64 (oa : Int), .int .u64 (ob : Int), .int .u64 (oc : Int), .int .u64 (od : Int)] 51)).drew = D at *
        refine takeR (i := 0) (v := ?_) rfl (by kernel_rfl) (by kernel_rfl) (by kernel_rfl) (some 16) rfl (Or.inl ⟨by rfl, ?_⟩) (fun _ _ _ h => h) (by assumption) ?_
        rotate_left
        · intro w hSw; (try dsimp only at hSw); go_simp; (try with_reducible rfl)
        simp only [Act.put, List.setIfInBounds_toArray, List.set_cons_zero, List.set_cons_succ]
        refine takeR (i := 1) (v := ?_) rfl (by kernel_rfl) (by kernel_rfl) (by kernel_rfl) (some 17) rfl (Or.inl ⟨by rfl, ?_⟩) (fun _ _ _ h => h) (by assumption) ?_
        rotate_left
        · intro w hSw; (try dsimp only at hSw); go_simp; (try with_reducible rfl)
        simp only [Act.put, List.setIfInBounds_toArray, List.set_cons_zero, List.set_cons_succ]
        refine takeR (i := 2) (v := ?_) rfl (by kernel_rfl) (by kernel_rfl) (by kernel_rfl) (some 18) rfl (Or.inl ⟨by rfl, ?_⟩) (fun _ _ _ h => h) (by assumption) ?_
        rotate_left
        · intro w hSw; (try dsimp only at hSw); go_simp; (try with_reducible rfl)
        simp only [Act.put, List.setIfInBounds_toArray, List.set_cons_zero, List.set_cons_succ]
        refine wpAnyH_ready (rs := [3]) (by kernel_rfl) (by simp) ?_
        refine AllReadyH.cons rfl (fun K hK => ?_) (AllReadyH.nil)
        go_simp
        refine (qt.out _).mono ?_
        rintro e w5 ⟨rfl, b5⟩
        have j5 := (kd : Below (wo.alloc (.cells #[.int .i64 (jf : Int), .bool om, .int .u64 (oa : Int), .int .u64 (ob : Int), .int .u64 (oc : Int), .int .u64 (od : Int)] 51)).heap.size (wo.alloc (.cells #[.int .i64 (jf : Int), .bool om, .int .u64 (oa : Int), .int .u64 (ob : Int), .int .u64 (oc : Int), .int .u64 (od : Int)] 51)) D).trans (b5.mono kd.size)
        have AQ := hide_ (((HQ.out.later BO.out).later j5))
        have AR := hide_ ((HR.out.later BO.out).later j5)
        refine hK.out _ _ (kN6 b5 hHeld) (fun hHeld => ?_)
        clear hK K
        try simp only [Act.put, List.setIfInBounds_toArray, List.set_cons_zero, List.set_cons_succ]
        refine takeR (i := 4) (v := ?_) rfl (by kernel_rfl) (by kernel_rfl) (by kernel_rfl) (some 20) rfl (Or.inl ⟨by rfl, ?_⟩) (fun _ _ _ h => h) (by assumption) ?_
        rotate_left
        · intro w hSw; (try dsimp only at hSw); go_simp; (try with_reducible rfl)
        simp only [Act.put, List.setIfInBounds_toArray, List.set_cons_zero, List.set_cons_succ]
        refine wpAnyH_ready (rs := [5]) (by kernel_rfl) (by simp) ?_
        refine AllReadyH.cons rfl (fun K hK => ?_) (AllReadyH.nil)
        obtain ⟨⟨z0, z1, z2, z3⟩, hx⟩ : ∃ p, (cubeL (L.take k))[jf]? = some p := ⟨_, List.getElem?_eq_getElem (by rw [cubeL_len]; exact hj24)⟩
        have hqd := AQ.out.quad hx
        obtain ⟨y0, y1, y2, y3, y4, y5, y6, y7⟩ := hqd
        clear hx
        go_simp
        refine hK.out _ _ (⟨far4c hHeld.1 hne, far4c hHeld.2.1 hne, far4c hHeld.2.2.1 hne, far4c hHeld.2.2.2.1 hne, far4c hHeld.2.2.2.2.1 hne, far4c hHeld.2.2.2.2.2.1 hne, (((hHeld.2.2.2.2.2.2.setCell hgw _).setCell hgw _).setCell hgw _).setCell hgw _⟩) (fun hHeld => ?_)
        clear hK K
        try simp only [Act.put, List.setIfInBounds_toArray, List.set_cons_zero, List.set_cons_succ]
        refine wpAnyH_done (by kernel_rfl) ?_ _
        have bel := hHeld.2.2.2.2.2.2
        clear hHeld
        go_wp2_with fail
        go_roundw
        case rel =>
          refine ⟨k + 1, by omega, by go_num, ?_, hide_ (AR.out.far4x (by omega) _ _ _ _), hide_ bel⟩
          have e : cubeStep (cubeL (L.take k)) ((jf : Int), om, oa, ob, oc, od) = (cubeL (L.take k)).set jf (t0, t1, t2, t3) := by unfold cubeStep; rw [if_pos HF.out, HT.out]; rfl
          rw [HS.out, e]
          exact hide_ (AQ.out.setq jf t0 t1 t2 t3)
        case measure => simp [intOf]; omega
    · have hlt' : ¬ (k : Int) < (L.length : Int) := by omega
      have hl := cubeL_len L
      have e := HQ.out
      rw [List.take_of_length_le (by omega)] at e
      have HQ := hide_ e
      clear e
      go_wp2_with (first | (refine wpList_loadA Try.underlying39 rfl (.tmp 3) rfl gc (by simp [Act.eval, Act.put]) (tdc (cubeL L)) (szC hl) HQ.out ?_) | (refine wpList_storeA rfl (.tmp 2) (.tmp 22) rfl w.heap.size (by simp [Act.eval, Act.put]) (tdc z24q) (tdc (cubeL L)) (by rw [tdc_length, tdc_length, z24q_len, hl]) (szC hl) (tdc_one _) (by simp [Act.eval, Act.put]) HR.out ?_))
      exact bodyPost_ret (results_A Try.underlying39 Try.results16 _ _ w.heap.size (tdc (cubeL L)) (szC hl) rfl HR.out.row) rfl ⟨rfl, KB.out.trans (below_row _ _ _ _ (Nat.le_refl _))⟩

end Go.Proofs.Ytcffebkebldjcaa
