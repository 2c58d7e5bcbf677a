import Derived.Test.YthamnlgjehlndaaGreatKN
import Derived.Test.YthamnlgjehlndaaGreatJE
import Derived.Deep.RegionHeld3
import Derived.Deep.RegionWith
import Derived.Deep.MidRow
import Derived.Deep.Cut
import Derived.Deep.RegionWith
namespace Go.Proofs.YthamnlgjehlndaaGreat
open Go Go.RowKit
set_option linter.unusedVariables false
set_option linter.unusedSimpArgs false

theorem be2_drop (l : List Int) (a i : Nat) : be2 l (a + i) = be2 (l.drop a) i := by
  unfold be2
  by_cases h : a + i + 2 ≤ l.length
  · rw [if_pos h, if_pos (by rw [List.length_drop]; omega)]
    simp [List.getD_eq_getElem?_getD, List.getElem?_drop, Nat.add_assoc]
  · rw [if_neg h, if_neg (by rw [List.length_drop]; omega)]
theorem be4_drop (l : List Int) (a i : Nat) : be4 l (a + i) = be4 (l.drop a) i := by
  unfold be4
  by_cases h : a + i + 4 ≤ l.length
  · rw [if_pos h, if_pos (by rw [List.length_drop]; omega)]
    simp [List.getD_eq_getElem?_getD, List.getElem?_drop, Nat.add_assoc]
  · rw [if_neg h, if_neg (by rw [List.length_drop]; omega)]
theorem mid_drop (l : List Int) (a s n : Nat) : (l.take (a + n)).drop (a + s) = ((l.drop a).take n).drop s := by
  rw [← List.drop_drop, List.drop_take, show a + n - a = n by omega]
theorem drop_at (l : List Int) (a i : Nat) (z : Int) (h : (l.drop a)[i]? = some z) : l[a + i]? = some z := by rwa [List.getElem?_drop] at h
theorem nz_four {m : List Int} (h16 : 16 ≤ m.length) : ∃ a b c d : Int, m[12]? = some a ∧ m[13]? = some b ∧ m[14]? = some c ∧ m[15]? = some d ∧ nzB ((m.take 16).drop 12) = (decide (a ≠ 0) || (decide (b ≠ 0) || (decide (c ≠ 0) || decide (d ≠ 0)))) := by
  obtain ⟨b0, b1, b2, b3, b4, b5, b6, b7, b8, b9, b10, b11, b12, b13, b14, b15, r, rfl⟩ := expl16 h16
  exact ⟨b12, b13, b14, b15, rfl, rfl, rfl, rfl, by simp [nzB]⟩
theorem far1row {w : World} {base g n sz : Nat} {e : TypeId} {v : Value} {xs : List Value} (ho : w.ownsRow base e sz v n xs) (hg : g < base) (j : Nat) (x : Value) : (w.setCell ⟨g, j, none⟩ x).ownsRow base e sz v n xs := by
  refine ⟨ho.1, ?_⟩
  rcases ho.2 with hn | ⟨g', cap, cur, rfl, hb, hgg, rest⟩
  · exact .inl hn
  · refine .inr ⟨g', cap, cur, rfl, hb, ?_, rest⟩
    rw [Below.heap_setCell w ⟨g, j, none⟩ x g' (by show g' ≠ g; omega)]
    exact hgg
theorem take16 (l : List Int) (N : Nat) (h : 16 ≤ N) : (l.take N).take 16 = l.take 16 := by rw [List.take_take, Nat.min_eq_left h]

set_option maxRecDepth 100000 in
set_option maxHeartbeats 8000000 in
theorem rbad6_any (c : Int) (w : World) :
    Calls Tryz.prog 69 #[.int .i64 c] w fun e w' => e = .returned (.agg #[.bool true, .int .i64 6, .int .i64 c]) ∧ Below w.heap.size w w' := by
  have B0 := hide_ (below1 w (.cells #[.bool true, .int .i64 6, .int .i64 c] 44))
  go_enter Tryz.func69, Tryz.ntmps69
  go_wp2
  exact bodyPost_ret (v := .agg #[.bool true, .int .i64 6, .int .i64 c]) (by simp [results, Tryz.results69, go_sem]) rfl ⟨rfl, B0.out⟩

end Go.Proofs.YthamnlgjehlndaaGreat
