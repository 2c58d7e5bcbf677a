import Derived.Test.YtcffebkebldjcaaEa
import Derived.Test.YtcffebkebldjcaaOe
import Derived.Deep.RegionHeld3
import Derived.Deep.RegionWith
import Derived.Deep.MidRow
import Derived.Deep.Cut
namespace Go.Proofs.Ytcffebkebldjcaa
open Go Go.RowKit
set_option linter.unusedVariables false
set_option linter.unusedSimpArgs false

theorem take_same {L K : List O6} {k : Nat} {x y : O6} (h : L.take k = K.take k) (hx : L[k]? = some x) (hy : K[k]? = some y) (e : x = y) : L.take (k + 1) = K.take (k + 1) := by
  rw [List.take_add_one, List.take_add_one, h, hx, hy, e]
theorem take_diff {L K : List O6} {k : Nat} {x y : O6} (hx : L[k]? = some x) (hy : K[k]? = some y) (e : ¬ x = y) : ¬ L = K := by
  intro h
  rw [h, hy] at hx
  injection hx with hx
  exact e hx.symm

set_option maxRecDepth 100000 in
set_option maxHeartbeats 8000000 in
theorem oeqf_any (v u : Value) (L K : List O6) (w : World) (hL : OxAt w v L) (hK : OxAt w u K) :
    Calls Try.prog 39 #[v, u, (.func (.func 40) #[] #[])] w fun e w' => e = .returned (.bool (decide (L = K))) ∧ Below w.heap.size w w' := by
  obtain ⟨s, cap, rfl, h1, h2, h3, h4⟩ := hL
  obtain ⟨s2, cap2, rfl, k1, k2, k3, k4⟩ := hK
  have HL := hide_ h4
  have HK := hide_ k4
  have hm : L.length ≤ 9223372036854775807 := by unfold maxLen at h2; omega
  have hm2 : K.length ≤ 9223372036854775807 := by unfold maxLen at k2; omega
  clear h1 h2 h3 h4 k1 k2 k3 k4
  by_cases hlen : L.length = K.length
  · have HE := hide_ hlen
    rw [← hlen]
    have g0 : ((L.length : Int) != (L.length : Int)) = false := by simp
    clear hlen hm2
    obtain ⟨R, hR⟩ : ∃ R, decide (L = K) = R := ⟨_, rfl⟩
    rw [hR]
    have HR := hide_ hR
    clear hR
    go_enter Try.func39, Try.ntmps39
    go_wp2
    go_loopw [17] (fun i wr => ∃ k : Nat, k ≤ L.length ∧ i = .int .i64 k ∧ Hid (L.take k = K.take k) ∧ Below w.heap.size w wr) (fun i _ => L.length - (intOf i).toNat)
    case atStart => exact ⟨0, Nat.zero_le _, rfl, hide_ rfl, Below.refl _ _⟩
    case round =>
      obtain ⟨k, hk, rfl, HT, hb⟩ := hrel
      by_cases hlt : k < L.length
      · obtain ⟨⟨f1, m1, a1, b1, c1, d1⟩, hx⟩ : ∃ x, L[k]? = some x := ⟨_, List.getElem?_eq_getElem hlt⟩
        obtain ⟨⟨f2, m2, a2, b2, c2, d2⟩, hy⟩ : ∃ y, K[k]? = some y := ⟨_, List.getElem?_eq_getElem (by have := HE.out; omega)⟩
        obtain ⟨q, off, rfl, x0, x1, x2, x3, x4, x5⟩ := HL.out k f1 m1 a1 b1 c1 d1 hx
        obtain ⟨q2, off2, rfl, y0, y1, y2, y3, y4, y5⟩ := HK.out k f2 m2 a2 b2 c2 d2 hy
        have x0 := cell_later hb x0
        have x1 := cell_later hb x1
        have x2 := cell_later hb x2
        have x3 := cell_later hb x3
        have x4 := cell_later hb x4
        have x5 := cell_later hb x5
        have y0 := cell_later (below1 wr (.cells #[.int .i64 f1, .bool m1, .int .u64 (a1 : Int), .int .u64 (b1 : Int), .int .u64 (c1 : Int), .int .u64 (d1 : Int)] 51)) (cell_later hb y0)
        have y1 := cell_later (below1 wr (.cells #[.int .i64 f1, .bool m1, .int .u64 (a1 : Int), .int .u64 (b1 : Int), .int .u64 (c1 : Int), .int .u64 (d1 : Int)] 51)) (cell_later hb y1)
        have y2 := cell_later (below1 wr (.cells #[.int .i64 f1, .bool m1, .int .u64 (a1 : Int), .int .u64 (b1 : Int), .int .u64 (c1 : Int), .int .u64 (d1 : Int)] 51)) (cell_later hb y2)
        have y3 := cell_later (below1 wr (.cells #[.int .i64 f1, .bool m1, .int .u64 (a1 : Int), .int .u64 (b1 : Int), .int .u64 (c1 : Int), .int .u64 (d1 : Int)] 51)) (cell_later hb y3)
        have y4 := cell_later (below1 wr (.cells #[.int .i64 f1, .bool m1, .int .u64 (a1 : Int), .int .u64 (b1 : Int), .int .u64 (c1 : Int), .int .u64 (d1 : Int)] 51)) (cell_later hb y4)
        have y5 := cell_later (below1 wr (.cells #[.int .i64 f1, .bool m1, .int .u64 (a1 : Int), .int .u64 (b1 : Int), .int .u64 (c1 : Int), .int .u64 (d1 : Int)] 51)) (cell_later hb y5)
        have HX := hide_ hx
        have HY := hide_ hy
        clear hx hy
        have hlt' : (k : Int) < (L.length : Int) := by omega
        have BB := hide_ (below2 wr (.cells #[.int .i64 f1, .bool m1, .int .u64 (a1 : Int), .int .u64 (b1 : Int), .int .u64 (c1 : Int), .int .u64 (d1 : Int)] 51) (.cells #[.int .i64 f2, .bool m2, .int .u64 (a2 : Int), .int .u64 (b2 : Int), .int .u64 (c2 : Int), .int .u64 (d2 : Int)] 51))
        have qs := hide_ (fun w => osame_any f1 m1 a1 b1 c1 d1 f2 m2 a2 b2 c2 d2 w)
        unfold ov at qs
        cases hd : decide ((f1, m1, a1, b1, c1, d1) = (f2, m2, a2, b2, c2, d2))
        · rw [hd] at qs
          have HD := hide_ (of_decide_eq_false hd)
          clear hd
          go_wp2_with (go_at_call 40; refine (qs.out _).mono ?_; rintro e w5 ⟨rfl, b5⟩)
          go_ret
          refine ⟨?_, hb.trans ((BB.out.trans (b5.mono BB.out.size)).mono hb.size)⟩
          rw [← HR.out, decide_eq_false (take_diff HX.out HY.out HD.out)]
          rfl
        · rw [hd] at qs
          have HD := hide_ (of_decide_eq_true hd)
          clear hd
          go_wp2_with (go_at_call 40; refine (qs.out _).mono ?_; rintro e w5 ⟨rfl, b5⟩)
          go_roundw
          case rel => exact ⟨k + 1, by omega, by go_num, hide_ (take_same HT.out HX.out HY.out HD.out), hb.trans ((BB.out.trans (b5.mono BB.out.size)).mono hb.size)⟩
          case measure => simp [intOf]; omega
      · have hlt' : ¬ (k : Int) < (L.length : Int) := by omega
        go_wp2
        go_ret
        refine ⟨?_, hb⟩
        have e := HT.out
        rw [List.take_of_length_le (by omega), List.take_of_length_le (by have := HE.out; omega)] at e
        rw [← HR.out, decide_eq_true e]
        rfl
  · have g0 : ((L.length : Int) != (K.length : Int)) = true := by simp; omega
    have g1 : ((L.length : Int) == (K.length : Int)) = false := by simp; omega
    have e : ¬ L = K := fun h => hlen (by rw [h])
    rw [decide_eq_false e]
    go_enter Try.func39, Try.ntmps39
    go_wp2
    go_ret
    exact ⟨rfl, Below.refl _ _⟩

set_option maxRecDepth 100000 in
set_option maxHeartbeats 4000000 in
theorem msame_any (v u : Value) (L K : List O6) (w : World) (hL : OxAt w v L) (hK : OxAt w u K) :
    Calls Try.prog 14 #[v, u] w fun e w' => e = .returned (.bool (decide (L = K))) ∧ Below w.heap.size w w' := by
  have q := hide_ (oeqf_any v u L K w hL hK)
  generalize decide (L = K) = z at *
  clear hL hK
  go_enter Try.func14, Try.ntmps14
  go_wp2_with (go_at_call 39; refine q.out.mono ?_; rintro e w1 ⟨rfl, b1⟩)
  go_ret
  exact ⟨rfl, b1⟩


end Go.Proofs.Ytcffebkebldjcaa
