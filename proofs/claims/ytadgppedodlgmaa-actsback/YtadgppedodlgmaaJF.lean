import Derived.Test.YtadgppedodlgmaaJC
import Derived.Test.YtadgppedodlgmaaJL
import Derived.Test.YtadgppedodlgmaaJA
import Derived.Deep.RegionHeld3
import Derived.Deep.RegionWith
import Derived.Deep.MidRow
import Derived.Deep.Cut
namespace Go.Proofs.Ytadgppedodlgmaa
section
open Go Go.RowKit
set_option linter.unusedVariables false
set_option linter.unusedSimpArgs false

theorem raenc_yes (k p x q y f : Int) (m : Bool) (a b c d : Nat) (w : World) (ha : a < 18446744073709551616) (hb : b < 18446744073709551616) (hc : c < 18446744073709551616) (hd : d < 18446744073709551616) (h : art k p x q y f m a b c d = true) :
    Calls Try.prog 28 #[av k p x q y f m a b c d] w fun e w' => ∃ r, e = .returned (.tuple #[r, .int .i64 0]) ∧ Bytes w' r (aencL k p x q y f m a b c d) ∧ Below w.heap.size w w' := by
  rcases art_kind h with rfl | rfl | rfl | rfl | rfl
  · exact raenc_0 p x q y f m a b c d w ha hb hc hd h
  · exact raenc_22 p x q y f m a b c d w ha hb hc hd h
  · exact raenc_17 p x q y f m a b c d w ha hb hc hd h
  · exact raenc_18 p x q y f m a b c d w ha hb hc hd h
  · exact raenc_25 p x q y f m a b c d w ha hb hc hd h
theorem encA_take {L : List A11} {j : Nat} {o : A11} (h : L[j]? = some o) : encA (L.take (j + 1)) = encA (L.take j) ++ aencO o := by
  rw [List.take_add_one, h]
  exact encA_snoc _ _
theorem encA_lt (L : List A11) (j : Nat) : (encA (L.take j)).length ≤ (L.take j).length * 64 ∨ True := .inr trivial

set_option maxRecDepth 100000 in
set_option maxHeartbeats 8000000 in
theorem rle_big (v : Value) (L : List A11) (w : World) (hL : ActAt w v L) (h : 100 < L.length) :
    Calls Try.prog 9 #[v] w fun e w' => e = .returned (.tuple #[.slice none 0 0, .int .i64 1]) ∧ Below w.heap.size w w' := by
  obtain ⟨s, cap, rfl, h2⟩ := hL.slice
  have g1 : (100 : Int) < (L.length : Int) := by omega
  clear hL
  go_enter Try.func9, Try.ntmps9
  go_wp2_with fail
  go_ret2
  exact ⟨rfl, Below.refl _ _⟩
end

section
open Go Go.RowKit
set_option linter.unusedVariables false
set_option linter.unusedSimpArgs false

set_option maxRecDepth 100000 in
set_option maxHeartbeats 8000000 in
theorem rle_yes (v : Value) (L : List A11) (w : World) (hL : ActAt w v L) (hF : AFit L) (h : L.length ≤ 100) (hr : L.all artO = true) :
    Calls Try.prog 9 #[v] w fun e w' => (∃ r, e = .returned (.tuple #[r, .int .i64 0]) ∧ OwnB w' w.heap.size r (encA L)) ∧ Below w.heap.size w w' := by
  obtain ⟨s, cap, rfl, h1, h2, h3, h4⟩ := hL
  have HL := hide_ h4
  have HF := hide_ (@hF)
  have HR := hide_ hr
  have g1 : ¬ (100 : Int) < (L.length : Int) := by omega
  have hm : L.length ≤ 9223372036854775807 := by omega
  clear h1 h2 h3 h4 hF hr
  obtain ⟨i0, hi0, hz0, hz1, hz2⟩ := info_parts info8g
  have HI : Hid (Try.prog.info? 5 = some i0 ∧ i0.zero = some (.int .u8 0) ∧ i0.size = 1 ∧ i0.bytes = 1) := ⟨hi0, hz0, hz1, hz2⟩
  clear hi0 hz0 hz1 hz2
  have BE := hide_ (below1 w (.cells #[] 5))
  have OE : Hid (OwnB (w.alloc (.cells #[] 5)) w.heap.size (.slice (some ⟨w.heap.size, 0, none⟩) 0 0) []) := hide_ ⟨⟨rfl, .inr ⟨w.heap.size, 0, #[], rfl, Nat.le_refl _, heap_alloc_last w _, Nat.le_refl _, by decide, rfl, rfl⟩⟩, fun z hz => by simp at hz⟩
  go_enter Try.func9, Try.ntmps9
  go_wp2
  go_loopw [4, 5] (fun u i wr => ∃ (j : Nat) (ua : Option Addr) (uc : Nat) (B : List Int), j ≤ L.length ∧ i = .int .i64 j ∧ u = .slice ua B.length uc ∧ B.length ≤ j * 60 ∧ Hid (OwnB wr w.heap.size (.slice ua B.length uc) B) ∧ Hid (B = encA (L.take j) ∧ (L.take j).all artO = true) ∧ Hid (Below w.heap.size w wr)) (fun _ i _ => L.length - (intOf i).toNat)
  case atStart => exact ⟨0, _, _, [], Nat.zero_le _, rfl, rfl, by simp, OE, hide_ ⟨rfl, rfl⟩, BE⟩
  case round =>
    obtain ⟨j, ua, uc, B, hj, rfl, rfl, hBl, HO, HE, KB⟩ := hrel
    by_cases hlt : j < L.length
    · skip
      obtain ⟨⟨k, p, x, q, y, f, m, a, b, c, d⟩, hz⟩ : ∃ z, L[j]? = some z := ⟨_, List.getElem?_eq_getElem hlt⟩
      obtain ⟨bq, off, rfl, X0, X1, X2, X3, X4, X5, X6, X7, X8, X9, X10⟩ := act11 HL.out hz
      have X0 := cell_later KB.out X0
      have X1 := cell_later KB.out X1
      have X2 := cell_later KB.out X2
      have X3 := cell_later KB.out X3
      have X4 := cell_later KB.out X4
      have X5 := cell_later KB.out X5
      have X6 := cell_later KB.out X6
      have X7 := cell_later KB.out X7
      have X8 := cell_later KB.out X8
      have X9 := cell_later KB.out X9
      have X10 := cell_later KB.out X10
      obtain ⟨g1', g2, g3, g4⟩ := HF.out k p x q y f m a b c d (List.mem_of_getElem? hz)
      have hlt' : (j : Int) < (L.length : Int) := by omega
      cases hk : art k p x q y f m a b c d
      · exfalso
        have := List.all_eq_true.1 HR.out _ (List.mem_of_getElem? hz)
        have e : artO (k, p, x, q, y, f, m, a, b, c, d) = false := hk
        rw [e] at this
        cases this
      · have qe := fun w => raenc_yes k p x q y f m a b c d w g1' g2 g3 g4 hk
        unfold av at qe
        have qe := hide_ qe
        have hen := (aenc_len g1' g2 g3 g4 hk).1
        have HN := hide_ (show (L.take (j + 1)).all artO = true by
          have ha : artO (k, p, x, q, y, f, m, a, b, c, d) = true := hk
          rw [List.take_add_one, hz, List.all_append, HE.out.2]
          simp [ha])
        have HT := hide_ (encA_take hz)
        clear hz hk g1' g2 g3 g4
        go_wp2_with (first | (go_at_call 28; refine (qe.out _).mono ?_; rintro e w3 ⟨r, rfl, h3, b3⟩; have K3 := KB.out.trans (b3.mono KB.out.size); have O3 := hide_ (HO.out.later b3); have h3 := hide_ h3) | (at_builtin; refine wpList_append_ownB rfl (.tmp 28) (.tmp 29) 24 rfl w.heap.size 5 i0 Try.underlying24 HI.out.1 HI.out.2.1 HI.out.2.2.1 HI.out.2.2.2 _ _ _ (by first | rfl | simp [Act.eval, Act.put]) O3.out.1 _ (aencL k p x q y f m a b c d) (by first | rfl | simp [Act.eval, Act.put]) h3.out (by omega) K3.size ?_; intro v4 w4 own4 g4))
        have O4 := O3.out.grow h3.out.isB_ own4
        have b4 := O3.out.growB g4 (Nat.le_refl _) K3.size
        obtain ⟨va, vc, ve⟩ := ownr_form O4.1
        subst ve
        have O4 := hide_ O4
        have hl4 : (B ++ aencL k p x q y f m a b c d).length ≤ (j + 1) * 60 := by rw [List.length_append]; omega
        have HE4 := hide_ (show B ++ aencL k p x q y f m a b c d = encA (L.take (j + 1)) ∧ (L.take (j + 1)).all artO = true from ⟨by rw [HT.out, ← HE.out.1]; rfl, HN.out⟩)
        clear own4 g4
        generalize B ++ aencL k p x q y f m a b c d = B4 at *
        go_wp2
        go_roundw
        case rel => exact ⟨j + 1, va, vc, B4, by omega, by go_num, rfl, hl4, O4, HE4, hide_ (K3.trans b4)⟩
        case measure => simp [intOf]; omega
    · have hlt' : ¬ (j : Int) < (L.length : Int) := by omega
      have e := HE.out.1
      rw [List.take_of_length_le (by omega)] at e
      have HE2 := hide_ e
      clear e
      go_wp2
      go_ret2
      exact ⟨⟨_, rfl, by rw [← HE2.out]; exact HO.out⟩, KB.out⟩
end

section
open Go Go.RowKit
set_option linter.unusedVariables false
set_option linter.unusedSimpArgs false

set_option maxRecDepth 100000 in
set_option maxHeartbeats 8000000 in
theorem rle_no (v : Value) (L : List A11) (w : World) (hL : ActAt w v L) (hF : AFit L) (h : L.length ≤ 100) (hr : L.all artO = false) :
    Calls Try.prog 9 #[v] w fun e w' => (e = .returned (.tuple #[.slice none 0 0, .int .i64 1])) ∧ Below w.heap.size w w' := by
  obtain ⟨s, cap, rfl, h1, h2, h3, h4⟩ := hL
  have HL := hide_ h4
  have HF := hide_ (@hF)
  have HR := hide_ hr
  have g1 : ¬ (100 : Int) < (L.length : Int) := by omega
  have hm : L.length ≤ 9223372036854775807 := by omega
  clear h1 h2 h3 h4 hF hr
  obtain ⟨i0, hi0, hz0, hz1, hz2⟩ := info_parts info8g
  have HI : Hid (Try.prog.info? 5 = some i0 ∧ i0.zero = some (.int .u8 0) ∧ i0.size = 1 ∧ i0.bytes = 1) := ⟨hi0, hz0, hz1, hz2⟩
  clear hi0 hz0 hz1 hz2
  have BE := hide_ (below1 w (.cells #[] 5))
  have OE : Hid (OwnB (w.alloc (.cells #[] 5)) w.heap.size (.slice (some ⟨w.heap.size, 0, none⟩) 0 0) []) := hide_ ⟨⟨rfl, .inr ⟨w.heap.size, 0, #[], rfl, Nat.le_refl _, heap_alloc_last w _, Nat.le_refl _, by decide, rfl, rfl⟩⟩, fun z hz => by simp at hz⟩
  go_enter Try.func9, Try.ntmps9
  go_wp2
  go_loopw [4, 5] (fun u i wr => ∃ (j : Nat) (ua : Option Addr) (uc : Nat) (B : List Int), j ≤ L.length ∧ i = .int .i64 j ∧ u = .slice ua B.length uc ∧ B.length ≤ j * 60 ∧ Hid (OwnB wr w.heap.size (.slice ua B.length uc) B) ∧ Hid (B = encA (L.take j) ∧ (L.take j).all artO = true) ∧ Hid (Below w.heap.size w wr)) (fun _ i _ => L.length - (intOf i).toNat)
  case atStart => exact ⟨0, _, _, [], Nat.zero_le _, rfl, rfl, by simp, OE, hide_ ⟨rfl, rfl⟩, BE⟩
  case round =>
    obtain ⟨j, ua, uc, B, hj, rfl, rfl, hBl, HO, HE, KB⟩ := hrel
    by_cases hlt : j < L.length
    · skip
      obtain ⟨⟨k, p, x, q, y, f, m, a, b, c, d⟩, hz⟩ : ∃ z, L[j]? = some z := ⟨_, List.getElem?_eq_getElem hlt⟩
      obtain ⟨bq, off, rfl, X0, X1, X2, X3, X4, X5, X6, X7, X8, X9, X10⟩ := act11 HL.out hz
      have X0 := cell_later KB.out X0
      have X1 := cell_later KB.out X1
      have X2 := cell_later KB.out X2
      have X3 := cell_later KB.out X3
      have X4 := cell_later KB.out X4
      have X5 := cell_later KB.out X5
      have X6 := cell_later KB.out X6
      have X7 := cell_later KB.out X7
      have X8 := cell_later KB.out X8
      have X9 := cell_later KB.out X9
      have X10 := cell_later KB.out X10
      obtain ⟨g1', g2, g3, g4⟩ := HF.out k p x q y f m a b c d (List.mem_of_getElem? hz)
      have hlt' : (j : Int) < (L.length : Int) := by omega
      cases hk : art k p x q y f m a b c d
      · have qe := fun w => raenc_no k p x q y f m a b c d w g1' g2 g3 g4 hk
        unfold av at qe
        have qe := hide_ qe
        clear hz hk g1' g2 g3 g4
        go_wp2_with (go_at_call 28; refine (qe.out _).mono ?_; rintro e w3 ⟨rfl, b3⟩; have K3 := KB.out.trans (b3.mono KB.out.size))
        go_ret2
        exact ⟨rfl, K3⟩
      · have qe := fun w => raenc_yes k p x q y f m a b c d w g1' g2 g3 g4 hk
        unfold av at qe
        have qe := hide_ qe
        have hen := (aenc_len g1' g2 g3 g4 hk).1
        have HN := hide_ (show (L.take (j + 1)).all artO = true by
          have ha : artO (k, p, x, q, y, f, m, a, b, c, d) = true := hk
          rw [List.take_add_one, hz, List.all_append, HE.out.2]
          simp [ha])
        have HT := hide_ (encA_take hz)
        clear hz hk g1' g2 g3 g4
        go_wp2_with (first | (go_at_call 28; refine (qe.out _).mono ?_; rintro e w3 ⟨r, rfl, h3, b3⟩; have K3 := KB.out.trans (b3.mono KB.out.size); have O3 := hide_ (HO.out.later b3); have h3 := hide_ h3) | (at_builtin; refine wpList_append_ownB rfl (.tmp 28) (.tmp 29) 24 rfl w.heap.size 5 i0 Try.underlying24 HI.out.1 HI.out.2.1 HI.out.2.2.1 HI.out.2.2.2 _ _ _ (by first | rfl | simp [Act.eval, Act.put]) O3.out.1 _ (aencL k p x q y f m a b c d) (by first | rfl | simp [Act.eval, Act.put]) h3.out (by omega) K3.size ?_; intro v4 w4 own4 g4))
        have O4 := O3.out.grow h3.out.isB_ own4
        have b4 := O3.out.growB g4 (Nat.le_refl _) K3.size
        obtain ⟨va, vc, ve⟩ := ownr_form O4.1
        subst ve
        have O4 := hide_ O4
        have hl4 : (B ++ aencL k p x q y f m a b c d).length ≤ (j + 1) * 60 := by rw [List.length_append]; omega
        have HE4 := hide_ (show B ++ aencL k p x q y f m a b c d = encA (L.take (j + 1)) ∧ (L.take (j + 1)).all artO = true from ⟨by rw [HT.out, ← HE.out.1]; rfl, HN.out⟩)
        clear own4 g4
        generalize B ++ aencL k p x q y f m a b c d = B4 at *
        go_wp2
        go_roundw
        case rel => exact ⟨j + 1, va, vc, B4, by omega, by go_num, rfl, hl4, O4, HE4, hide_ (K3.trans b4)⟩
        case measure => simp [intOf]; omega
    · have hlt' : ¬ (j : Int) < (L.length : Int) := by omega
      exfalso
      have e := HE.out.2
      rw [List.take_of_length_le (by omega), HR.out] at e
      cases e
end

end Go.Proofs.Ytadgppedodlgmaa
