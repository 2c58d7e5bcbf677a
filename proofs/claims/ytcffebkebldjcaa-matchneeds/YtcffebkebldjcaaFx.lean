import Derived.Test.YtcffebkebldjcaaEi
import Derived.Deep.RegionHeld3
import Derived.Deep.RegionWith
import Derived.Deep.MidRow
import Derived.Deep.Cut
namespace Go.Proofs.Ytcffebkebldjcaa
open Go Go.RowKit
set_option linter.unusedVariables false
set_option linter.unusedSimpArgs false

set_option maxRecDepth 100000 in
set_option maxHeartbeats 4000000 in
theorem nclo_any (of : Int) (om : Bool) (oa ob oc od : Nat) (w : World) (ha : oa < 18446744073709551616) (hb : ob < 18446744073709551616) (hc : oc < 18446744073709551616) (hd : od < 18446744073709551616) :
    Calls Try.prog 24 #[.agg #[.int .i64 of, .bool om, .int .u64 (oa : Int), .int .u64 (ob : Int), .int .u64 (oc : Int), .int .u64 (od : Int)]] w fun e w' => e = .returned (.bool (!rgt of om oa ob oc od)) ∧ Below w.heap.size w w' := by
  have B0 := hide_ (below1 w (.cells #[.int .i64 of, .bool om, .int .u64 (oa : Int), .int .u64 (ob : Int), .int .u64 (oc : Int), .int .u64 (od : Int)] 51))
  have q := hide_ (fun w => oright_any of om oa ob oc od w ha hb hc hd)
  unfold ov at q
  generalize rgt of om oa ob oc od = z at *
  clear ha hb hc hd
  go_enter Try.func24, Try.ntmps24
  go_wp2_with (go_at_call 25; refine (q.out _).mono ?_; rintro e w1 ⟨rfl, b1⟩)
  go_ret
  exact ⟨rfl, B0.out.trans (b1.mono B0.out.size)⟩

set_option maxRecDepth 100000 in
set_option maxHeartbeats 4000000 in
theorem nidx_any (v : Value) (L : List O6) (w : World) (hL : OxAt w v L) (h : Fit L) :
    Calls Try.prog 55 #[v, (.func (.func 24) #[] #[])] w fun e w' => (∃ i : Int, e = .returned (.int .i64 i) ∧ (decide (0 ≤ i)) = L.any (fun t => !rgtO t)) ∧ Below w.heap.size w w' := by
  obtain ⟨s, cap, rfl, h1, h2, h3, h4⟩ := hL
  have H := hide_ h4
  have hm : L.length ≤ 9223372036854775807 := by unfold maxLen at h2; omega
  have HO := hide_ h
  clear h1 h2 h3 h4 h
  go_enter Try.func55, Try.ntmps55
  go_wp2
  go_loopw [5, 8] (fun _ i wr => ∃ k : Nat, k ≤ L.length ∧ i = .int .i64 k ∧ Hid ((L.take k).any (fun t => !rgtO t) = false) ∧ Below w.heap.size w wr) (fun _ i _ => L.length - (intOf i).toNat)
  case atStart => exact ⟨0, Nat.zero_le _, rfl, rfl, Below.refl _ _⟩
  case round =>
    obtain ⟨k, hk, rfl, HT, hb⟩ := hrel
    by_cases hlt : k < L.length
    · obtain ⟨⟨of, om, oa, ob, oc, od⟩, hz⟩ : ∃ z, L[k]? = some z := ⟨_, List.getElem?_eq_getElem hlt⟩
      obtain ⟨q, off, rfl, d0, d1, d2, d3, d4, d5⟩ := H.out k of om oa ob oc od hz
      have d0 := cell_later hb d0
      have d1 := cell_later hb d1
      have d2 := cell_later hb d2
      have d3 := cell_later hb d3
      have d4 := cell_later hb d4
      have d5 := cell_later hb d5
      have HZ := hide_ hz
      have hlt' : (k : Int) < (L.length : Int) := by omega
      obtain ⟨r1, r2, r3, r4⟩ := HO.out k of om oa ob oc od hz
      have qc := hide_ (nclo_any of om oa ob oc od wr r1 r2 r3 r4)
      clear r1 r2 r3 r4
      clear hz
      cases hh : !rgt of om oa ob oc od
      · rw [hh] at qc
        have HH := hide_ hh
        clear hh
        go_wp2_with (go_at_call 24; refine qc.out.mono ?_; rintro e w1 ⟨rfl, b1⟩)
        go_roundw
        case rel => exact ⟨k + 1, by omega, by go_num, by show _ = _; rw [List.take_add_one, HZ.out, List.any_append, HT.out]; simpa [rgtO] using HH.out, hb.trans (b1.mono hb.size)⟩
        case measure => simp [intOf]; omega
      · rw [hh] at qc
        have HH := hide_ hh
        clear hh
        go_wp2_with (go_at_call 24; refine qc.out.mono ?_; rintro e w1 ⟨rfl, b1⟩)
        go_ret
        refine ⟨⟨_, rfl, ?_⟩, hb.trans (b1.mono hb.size)⟩
        have e1 : L.any (fun t => !rgtO t) = true := by
          rw [List.any_eq_true]
          exact ⟨_, List.mem_of_getElem? HZ.out, HH.out⟩
        rw [e1]
        simp
    · have hlt' : ¬ (k : Int) < (L.length : Int) := by omega
      go_wp2
      go_ret
      refine ⟨⟨_, rfl, ?_⟩, hb⟩
      have e := HT.out
      rw [List.take_of_length_le (by omega)] at e
      rw [e]
      rfl

set_option maxRecDepth 100000 in
set_option maxHeartbeats 4000000 in
theorem ncont_any (v : Value) (L : List O6) (w : World) (hL : OxAt w v L) (h : Fit L) :
    Calls Try.prog 23 #[v, (.func (.func 24) #[] #[])] w fun e w' => e = .returned (.bool (L.any (fun t => !rgtO t))) ∧ Below w.heap.size w w' := by
  have q := hide_ (nidx_any v L w hL h)
  generalize L.any (fun t => !rgtO t) = z at *
  clear hL h
  go_enter Try.func23, Try.ntmps23
  go_wp2_with (go_at_call 55; refine q.out.mono ?_; rintro e w1 ⟨⟨i, rfl, hi⟩, b1⟩)
  go_ret
  exact ⟨by rw [← hi]; rfl, b1⟩


theorem AB.two' {w : World} {g : Nat} {ty : TypeId} {a b : Value} (h : AB w g ty [a, b]) : w.cell? ⟨g, 0, none⟩ = some a ∧ w.cell? ⟨g, 1, none⟩ = some b :=
  ⟨(h.cell (j := 0) rfl).1, (h.cell (j := 1) rfl).1⟩

set_option maxRecDepth 100000 in
set_option maxHeartbeats 4000000 in
theorem lidx_any (v : Value) (vs : List Nat) (y : Nat) (w : World) (hC : Cells w v 2 vs.length (wdc (lo vs))) :
    Calls Try.prog 63 #[v, .agg #[.int .u64 0, .int .u64 (y : Int)]] w fun e w' => (∃ i : Int, e = .returned (.int .i64 i) ∧ (decide (0 ≤ i)) = vs.any (fun v => decide (v = y))) ∧ Below w.heap.size w w' := by
  have hcc := hC
  obtain ⟨hxl, s, cap, rfl, hr⟩ := hcc
  obtain ⟨-, hm, -, hat⟩ := Cells.at hC
  have H := hide_ hat
  unfold maxLen at hm
  clear hat hC hr hxl
  have B0 := hide_ (below1 w (.cells #[.int .u64 0, .int .u64 (y : Int)] 35))
  have A0 := hide_ (AB.at0 w 35 [.int .u64 0, .int .u64 (y : Int)])
  go_enter Try.func63, Try.ntmps63
  go_wp2
  go_loopw [5, 8] (fun _ i wr => ∃ k : Nat, k ≤ vs.length ∧ i = .int .i64 k ∧ Hid ((vs.take k).any (fun v => decide (v = y)) = false) ∧ Hid (Below w.heap.size w wr) ∧ Hid (AB wr w.heap.size 35 [.int .u64 0, .int .u64 (y : Int)])) (fun _ i _ => vs.length - (intOf i).toNat)
  case atStart => exact ⟨0, Nat.zero_le _, rfl, hide_ rfl, B0, A0⟩
  case round =>
    obtain ⟨k, hk, rfl, HT, HB, HA⟩ := hrel
    by_cases hlt : k < vs.length
    · obtain ⟨z, hz⟩ : ∃ z, vs[k]? = some z := ⟨_, List.getElem?_eq_getElem hlt⟩
      obtain ⟨e0, e1⟩ := lo_cell hz
      obtain ⟨q, off, rfl, c0⟩ := H.out _ _ e0
      obtain ⟨q', off', e', c1⟩ := H.out _ _ e1
      cases e'
      have c0 := cell_later HB.out c0
      have c1 := cell_later HB.out c1
      rw [← Nat.add_assoc] at c1
      obtain ⟨a0, a1⟩ := HA.out.two'
      have HZ := hide_ hz
      clear hz e0 e1
      have hlt' : (k : Int) < (vs.length : Int) := by omega
      by_cases hh : y = z
      · subst hh
        go_wp2_with fail
        go_quiet (fail)
        go_wp2_with fail
        go_ret
        refine ⟨⟨_, rfl, ?_⟩, below_drewN HB.out nq⟩
        have e1 : vs.any (fun v => decide (v = y)) = true := by
          rw [List.any_eq_true]
          exact ⟨y, List.mem_of_getElem? HZ.out, by simp⟩
        rw [e1]
        simp
      · have gy : ((y : Int) == (z : Int)) = false := by simp; omega
        go_wp2_with fail
        go_quiet (fail)
        go_wp2_with fail
        go_roundw
        case rel => exact ⟨k + 1, by omega, by go_num, by show _ = _; rw [List.take_add_one, HZ.out, List.any_append, HT.out]; simp; omega, hide_ (below_drewN HB.out nq), hide_ (HA.out.later (below_drewN (Below.refl _ _) nq))⟩
        case measure => simp [intOf]; omega
    · have hlt' : ¬ (k : Int) < (vs.length : Int) := by omega
      go_wp2
      go_ret
      refine ⟨⟨_, rfl, ?_⟩, HB.out⟩
      have e := HT.out
      rw [List.take_of_length_le (by omega)] at e
      rw [e]
      rfl

set_option maxRecDepth 100000 in
set_option maxHeartbeats 4000000 in
theorem lcont_any (v : Value) (vs : List Nat) (y : Nat) (w : World) (hC : Cells w v 2 vs.length (wdc (lo vs))) :
    Calls Try.prog 28 #[v, .agg #[.int .u64 0, .int .u64 (y : Int)]] w fun e w' => e = .returned (.bool (vs.any (fun v => decide (v = y)))) ∧ Below w.heap.size w w' := by
  have B0 := hide_ (below1 w (.cells #[.int .u64 0, .int .u64 (y : Int)] 35))
  have A0 := hide_ (AB.at0 w 35 [.int .u64 0, .int .u64 (y : Int)])
  obtain ⟨a0, a1⟩ := A0.out.two'
  have q := hide_ (lidx_any v vs y (w.alloc (.cells #[.int .u64 0, .int .u64 (y : Int)] 35)) (hC.later (below1 w _)))
  generalize vs.any (fun v => decide (v = y)) = z at *
  clear hC
  go_enter Try.func28, Try.ntmps28
  go_wp2_with (go_at_call 63; refine q.out.mono ?_; rintro e w1 ⟨⟨i, rfl, hi⟩, b1⟩)
  go_ret
  exact ⟨by rw [← hi]; rfl, B0.out.trans (b1.mono B0.out.size)⟩

end Go.Proofs.Ytcffebkebldjcaa
