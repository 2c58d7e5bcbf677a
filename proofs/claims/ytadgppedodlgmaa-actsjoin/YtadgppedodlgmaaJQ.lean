import Derived.Test.YtadgppedodlgmaaJB
import Derived.Test.YtadgppedodlgmaaAe
import Derived.Deep.RegionHeld3
import Derived.Deep.RegionWith
import Derived.Deep.MidRow
import Derived.Deep.Cut
namespace Go.Proofs.Ytadgppedodlgmaa
section
open Go Go.RowKit
set_option linter.unusedVariables false
set_option linter.unusedSimpArgs false

theorem act_cells {w : World} {ad : Addr} {n cap : Nat} {L : List A11} (h : ActAt w (.slice (some ad) n cap) L) : ∀ j u, (ads L)[j]? = some u → w.cell? (ad.add j) = some u := by
  obtain ⟨s, cap', e, h1, h2, h3, h4⟩ := h
  cases e
  intro j u hu
  have hj : j < L.length * 11 := by rw [← ads_length]; exact (List.getElem?_eq_some_iff.1 hu).1
  have e1 : j / 11 * 11 + j % 11 = j := by omega
  obtain ⟨o, ho⟩ : ∃ o, L[j / 11]? = some o := ⟨_, List.getElem?_eq_getElem (by omega)⟩
  obtain ⟨q, off, e2, hc⟩ := h4 _ o ho
  cases e2
  rw [← e1, ads_at ho (by omega)] at hu
  have := hc _ u hu
  rw [Addr.add_lit]
  rw [Nat.add_assoc, e1] at this
  exact this
theorem wpList_append_act {w : World} {ops : Array Oper} {rest : List Oper} {o : Oper} {a : Act} {Q : Exit → Act → World → Prop} (hgd : o.guard = none) (s x : Operand) (t : TypeId)
    (ho : o.op = .call { callee := .builtin .append, args := #[s, x], argTypes := #[t, t] })
    (base : Nat) (i : TypeInfo) (ht : Try.prog.underlying t = some (.slice 46)) (hi : Try.prog.info? 46 = some i) (hz : i.zero = some (.agg #[.int .i64 0, .int .i64 0, .int .i64 0, .int .i64 0, .int .i64 0, .int .i64 0, .bool false, .int .u64 0, .int .u64 0, .int .u64 0, .int .u64 0]))
    (hsize : i.size = 11) (hby : i.bytes = 88)
    (v : Value) (n : Nat) (xs : List Value) (hs : a.eval s = v) (hown : w.ownsRow base 46 11 v n xs)
    (u : Value) (L : List A11) (hx : a.eval x = u) (hB : ActAt w u L)
    (h63 : n + L.length ≤ 1000000) (hbase : base ≤ w.heap.size)
    (h : ∀ v' w', w'.ownsRow base 46 11 v' (n + L.length) (xs ++ ads L) → w.grownBy w' v.ownBlock → wpList Try.prog ops Q rest (a.put o.dst v') w') : wpList Try.prog ops Q (o :: rest) a w := by
  have hB2 := hB
  obtain ⟨ad, cap, rfl, h1, h2, h3, h4⟩ := hB
  cases ad with
  | none =>
    have hc := h3 rfl
    subst hc
    have hl : L = [] := List.eq_nil_of_length_eq_zero (by omega)
    subst hl
    refine wpList_append_own_none hgd s x t ho base 46 i 11 ht hi v n xs hs hown hx ?_
    refine h v w ?_ ⟨rfl, rfl, rfl, Nat.le_refl _, fun _ _ _ => rfl⟩
    simpa [ads] using hown
  | some ad =>
    exact wpList_append_own w hgd s x t ho base 46 i (.agg #[.int .i64 0, .int .i64 0, .int .i64 0, .int .i64 0, .int .i64 0, .int .i64 0, .bool false, .int .u64 0, .int .u64 0, .int .u64 0, .int .u64 0]) 11 88 ht hi hz hsize hby rfl (by decide) v n xs hs hown ad L.length cap (ads L) hx (ads_length L) (act_cells hB2) (ads_one L) (by unfold maxLen; omega) (by omega) hbase (fun v' w' a1 a2 _ => h v' w' a1 a2)
end

section
open Go Go.RowKit
set_option linter.unusedVariables false
set_option linter.unusedSimpArgs false

set_option maxRecDepth 100000 in
set_option maxHeartbeats 8000000 in
theorem aclone_any (v : Value) (L : List A11) (w : World) (hL : ActAt w v L) (hlen : L.length ≤ 1000) :
    Calls Try.prog 20 #[v] w fun e w' => ∃ r, e = .returned r ∧ w'.ownsRow w.heap.size 46 11 r L.length (ads L) ∧ Below w.heap.size w w' := by
  have hB2 := hide_ hL
  obtain ⟨a, cap, rfl, h1, h2, h3, h4⟩ := hL
  cases a with
  | none =>
    have hc := h3 rfl
    subst hc
    have hl : L = [] := List.eq_nil_of_length_eq_zero (by omega)
    subst hl
    simp only [List.length_nil]
    clear h1 h2 h3 h4 hB2
    have hn := fun wx => Lib.run_eql_slice_nil (P := Try.prog) wx 22 46 none 0 0 0 0 Try.underlying22
    go_enter Try.func20, Try.ntmps20
    go_wp2
    go_ret
    exact ⟨_, rfl, World.ownsRow_nil _ _ _ _, Below.refl _ _⟩
  | some ad =>
    have hn := fun wx => Lib.run_eql_slice_nil (P := Try.prog) wx 22 46 (some ad) L.length cap 0 0 Try.underlying22
    clear h3 h4
    unfold maxLen at h2
    obtain ⟨i0, hi0, hz0, hz1, hz2⟩ := info_parts infoAc
    have HI : Hid (Try.prog.info? 46 = some i0 ∧ i0.zero = some (.agg #[.int .i64 0, .int .i64 0, .int .i64 0, .int .i64 0, .int .i64 0, .int .i64 0, .bool false, .int .u64 0, .int .u64 0, .int .u64 0, .int .u64 0]) ∧ i0.size = 11 ∧ i0.bytes = 88) := ⟨hi0, hz0, hz1, hz2⟩
    clear hi0 hz0 hz1 hz2
    go_enter Try.func20, Try.ntmps20
    go_wp2_with (at_builtin; refine wpList_append_act rfl (.tmp 5) (.tmp 6) 22 rfl w.heap.size i0 Try.underlying22 HI.out.1 HI.out.2.1 HI.out.2.2.1 HI.out.2.2.2 (.slice (some ⟨w.heap.size, 0, none⟩) 0 0) 0 [] (by simp [Act.eval, Act.put]) (World.ownsRow_made w #[] 0 (Nat.le_refl _) (Nat.zero_le _) rfl) (.slice (some ad) L.length cap) L (by simp [Act.eval, Act.put]) (hB2.out.later (by go_grown)) (by omega) (by simp) ?_; intro v' w' hown hg)
    go_ret
    exact ⟨_, rfl, by simpa using hown, (by go_grown : Below w.heap.size w (w.alloc (.cells #[] 46))).trans (below_grown hg _ (by simp) (by simp [Value.ownBlock]))⟩
end

section
open Go Go.RowKit
set_option linter.unusedVariables false
set_option linter.unusedSimpArgs false

set_option maxRecDepth 100000 in
set_option maxHeartbeats 8000000 in
theorem wclo_any (k p x q y f : Int) (m : Bool) (a b c d : Nat) (w : World) (ha : a < 18446744073709551616) (hb : b < 18446744073709551616) (hc : c < 18446744073709551616) (hd : d < 18446744073709551616) :
    Calls Try.prog 22 #[.agg #[.int .i64 k, .int .i64 p, .int .i64 x, .int .i64 q, .int .i64 y, .int .i64 f, .bool m, .int .u64 (a : Int), .int .u64 (b : Int), .int .u64 (c : Int), .int .u64 (d : Int)]] w fun e w' => e = .returned (.bool (!art k p x q y f m a b c d)) ∧ Below w.heap.size w w' := by
  have B0 := hide_ (below1 w (.cells #[.int .i64 k, .int .i64 p, .int .i64 x, .int .i64 q, .int .i64 y, .int .i64 f, .bool m, .int .u64 (a : Int), .int .u64 (b : Int), .int .u64 (c : Int), .int .u64 (d : Int)] 46))
  have qe := fun w => aright_any k p x q y f m a b c d w ha hb hc hd
  unfold av at qe
  have qe := hide_ qe
  generalize art k p x q y f m a b c d = z at *
  obtain ⟨x0, x1, x2, x3, x4, x5, x6, x7, x8, x9, x10, -⟩ := (AB.at0 w 46 [.int .i64 k, .int .i64 p, .int .i64 x, .int .i64 q, .int .i64 y, .int .i64 f, .bool m, .int .u64 (a : Int), .int .u64 (b : Int), .int .u64 (c : Int), .int .u64 (d : Int)]).eleven
  clear ha hb hc hd
  go_enter Try.func22, Try.ntmps22
  go_wp2_with (go_at_call 38; refine (qe.out _).mono ?_; rintro e w1 ⟨rfl, b1⟩)
  go_ret
  exact ⟨rfl, B0.out.trans (b1.mono B0.out.size)⟩
end

section
open Go Go.RowKit
set_option linter.unusedVariables false
set_option linter.unusedSimpArgs false

set_option maxRecDepth 100000 in
set_option maxHeartbeats 8000000 in
theorem widx_any (v : Value) (L : List A11) (w : World) (hL : ActAt w v L) (h : AFit L) :
    Calls Try.prog 37 #[v, (.func (.func 22) #[] #[])] w fun e w' => (∃ i : Int, e = .returned (.int .i64 i) ∧ (decide (0 ≤ i)) = L.any (fun o => !artO o)) ∧ Below w.heap.size w w' := by
  obtain ⟨s, cap, rfl, h1, h2, h3, h4⟩ := hL
  have HL := hide_ h4
  have hm : L.length ≤ 9223372036854775807 := by unfold maxLen at h2; omega
  have HF := hide_ (@h)
  clear h1 h2 h3 h4 h
  go_enter Try.func37, Try.ntmps37
  go_wp2
  go_loopw [5, 8] (fun _ i wr => ∃ j : Nat, j ≤ L.length ∧ i = .int .i64 j ∧ Hid ((L.take j).any (fun o => !artO o) = false) ∧ Hid (Below w.heap.size w wr)) (fun _ i _ => L.length - (intOf i).toNat)
  case atStart => exact ⟨0, Nat.zero_le _, rfl, hide_ rfl, hide_ (Below.refl _ _)⟩
  case round =>
    obtain ⟨j, hj, rfl, HT, KB⟩ := hrel
    by_cases hlt : j < L.length
    · skip
      obtain ⟨⟨k, p, x, q, y, f, m, a, b, c, d⟩, hz⟩ : ∃ z, L[j]? = some z := ⟨_, List.getElem?_eq_getElem hlt⟩
      obtain ⟨bq, off, rfl, X0, X1, X2, X3, X4, X5, X6, X7, X8, X9, X10⟩ := act11 HL.out hz
      have X0 := cell_later KB.out X0
      have X1 := cell_later KB.out X1
      have X2 := cell_later KB.out X2
      have X3 := cell_later KB.out X3
      have X4 := cell_later KB.out X4
      have X5 := cell_later KB.out X5
      have X6 := cell_later KB.out X6
      have X7 := cell_later KB.out X7
      have X8 := cell_later KB.out X8
      have X9 := cell_later KB.out X9
      have X10 := cell_later KB.out X10
      obtain ⟨g1, g2, g3, g4⟩ := HF.out k p x q y f m a b c d (List.mem_of_getElem? hz)
      have qc := fun w => wclo_any k p x q y f m a b c d w g1 g2 g3 g4
      have HZ := hide_ hz
      have hlt' : (j : Int) < (L.length : Int) := by omega
      clear hz g1 g2 g3 g4
      cases hh : art k p x q y f m a b c d
      · rw [hh] at qc
        have qc := hide_ qc
        have HH := hide_ hh
        clear hh
        go_wp2_with (go_at_call 22; refine (qc.out _).mono ?_; rintro e w1 ⟨rfl, b1⟩)
        go_ret
        refine ⟨⟨_, rfl, ?_⟩, KB.out.trans (b1.mono KB.out.size)⟩
        have e1 : L.any (fun o => !artO o) = true := by
          rw [List.any_eq_true]
          exact ⟨_, List.mem_of_getElem? HZ.out, by
            have ha : artO (k, p, x, q, y, f, m, a, b, c, d) = false := HH.out
            rw [ha]; rfl⟩
        rw [e1]
        simp
      · rw [hh] at qc
        have qc := hide_ qc
        have HH := hide_ hh
        clear hh
        go_wp2_with (go_at_call 22; refine (qc.out _).mono ?_; rintro e w1 ⟨rfl, b1⟩)
        go_roundw
        case rel => exact ⟨j + 1, by omega, by go_num, hide_ (by
          have ha : artO (k, p, x, q, y, f, m, a, b, c, d) = true := HH.out
          rw [List.take_add_one, HZ.out, List.any_append, HT.out]
          simp [ha]), hide_ (KB.out.trans (b1.mono KB.out.size))⟩
        case measure => simp [intOf]; omega
    · have hlt' : ¬ (j : Int) < (L.length : Int) := by omega
      go_wp2
      go_ret
      refine ⟨⟨_, rfl, ?_⟩, KB.out⟩
      have e := HT.out
      rw [List.take_of_length_le (by omega)] at e
      rw [e]
      rfl
end

section
open Go Go.RowKit
set_option linter.unusedVariables false
set_option linter.unusedSimpArgs false

set_option maxRecDepth 100000 in
set_option maxHeartbeats 8000000 in
theorem wcont_any (v : Value) (L : List A11) (w : World) (hL : ActAt w v L) (h : AFit L) :
    Calls Try.prog 21 #[v, (.func (.func 22) #[] #[])] w fun e w' => e = .returned (.bool (L.any (fun o => !artO o))) ∧ Below w.heap.size w w' := by
  have q := hide_ (widx_any v L w hL @h)
  generalize L.any (fun o => !artO o) = z at *
  clear hL h
  go_enter Try.func21, Try.ntmps21
  go_wp2_with (go_at_call 37; refine q.out.mono ?_; rintro e w1 ⟨⟨i, rfl, hi⟩, b1⟩)
  go_ret
  exact ⟨by rw [← hi]; rfl, b1⟩
end

end Go.Proofs.Ytadgppedodlgmaa
