import Derived.Test.YtcffebkebldjcaaOe
import Derived.Test.YtcffebkebldjcaaOc
import Derived.Test.YtcffebkebldjcaaXj
import Derived.Deep.RegionHeld3
import Derived.Deep.RegionWith
import Derived.Deep.MidRow
import Derived.Deep.Cut
namespace Go.Proofs.Ytcffebkebldjcaa
open Go Go.RowKit
set_option linter.unusedVariables false
set_option linter.unusedSimpArgs false

abbrev O6 := Int × Bool × Nat × Nat × Nat × Nat
/-- a slice of parts -/
def OxAt (w : World) (v : Value) (L : List O6) : Prop := ∃ s cap, v = .slice s L.length cap ∧ L.length ≤ cap ∧ cap ≤ maxLen ∧ (s = none → cap = 0) ∧
    ∀ (i : Nat) (f : Int) (m : Bool) (a b c d : Nat), L[i]? = some (f, m, a, b, c, d) → ∃ q off, s = some ⟨q, off, none⟩ ∧ w.cell? ⟨q, off + i * 6, none⟩ = some (.int .i64 f) ∧ w.cell? ⟨q, off + i * 6 + 1, none⟩ = some (.bool m) ∧ w.cell? ⟨q, off + i * 6 + 2, none⟩ = some (.int .u64 (a : Int)) ∧ w.cell? ⟨q, off + i * 6 + 3, none⟩ = some (.int .u64 (b : Int)) ∧ w.cell? ⟨q, off + i * 6 + 4, none⟩ = some (.int .u64 (c : Int)) ∧ w.cell? ⟨q, off + i * 6 + 5, none⟩ = some (.int .u64 (d : Int))
theorem OxAt.later {w w' : World} {v : Value} {L : List O6} (h : OxAt w v L) (hb : Below w.heap.size w w') : OxAt w' v L := by
  obtain ⟨s, cap, rfl, h1, h2, h3, h4⟩ := h
  refine ⟨s, cap, rfl, h1, h2, h3, fun i f m a b c d hi => ?_⟩
  obtain ⟨q, off, e, c0, c1, c2, c3, c4, c5⟩ := h4 i f m a b c d hi
  exact ⟨q, off, e, cell_later hb c0, cell_later hb c1, cell_later hb c2, cell_later hb c3, cell_later hb c4, cell_later hb c5⟩
theorem OxAt.nil (w : World) : OxAt w (.slice none 0 0) [] := ⟨none, 0, rfl, Nat.le_refl _, Nat.zero_le _, fun _ => rfl, fun i f m a b c d h => by simp at h⟩
theorem OxAt.take {w : World} {s : Option Addr} {n cap : Nat} {L : List O6} (h : OxAt w (.slice s n cap) L) (k : Nat) (hk : k ≤ L.length) : OxAt w (.slice s k cap) (L.take k) := by
  obtain ⟨s', cap', e, h1, h2, h3, h4⟩ := h
  cases e
  have hl : (L.take k).length = k := by simp; omega
  refine ⟨s, cap, by rw [hl], by omega, h2, h3, fun i f m a b c d hi => ?_⟩
  rw [List.getElem?_take] at hi
  split at hi
  · exact h4 i f m a b c d hi
  · cases hi
/-- whether a part is what is needed -/
def meetB (f : Int) (m : Bool) (a b : Nat) (nf : Int) (vs : List Nat) : Bool := decide (f = nf) && (vs.isEmpty || (!m && vs.any (fun v => decide (0 = a) && decide (v = b))))
def metB (L : List O6) (f : Int) : Bool := (nd f).all (fun n => L.any (fun o => meetB o.1 o.2.1 o.2.2.1 o.2.2.2.1 n.1 n.2))
theorem lo_cell {vs : List Nat} {k v : Nat} (h : vs[k]? = some v) : (wdc (lo vs))[k * 2]? = some (.int .u64 0) ∧ (wdc (lo vs))[k * 2 + 1]? = some (.int .u64 (v : Int)) := by
  induction vs generalizing k with
  | nil => simp at h
  | cons x xs ih =>
    cases k with
    | zero =>
      simp at h
      subst h
      simp [lo, wdc]
    | succ k =>
      have := ih (k := k) (by simpa using h)
      have e1 : (k + 1) * 2 = k * 2 + 1 + 1 := by omega
      rw [e1]
      simpa [lo, wdc] using this

set_option maxRecDepth 100000 in
set_option maxHeartbeats 4000000 in
theorem mclo_any (x y : Nat) (f : Int) (m : Bool) (a b c d : Nat) (g : Nat) (w : World) (h : AB w g 51 [.int .i64 f, .bool m, .int .u64 (a : Int), .int .u64 (b : Int), .int .u64 (c : Int), .int .u64 (d : Int)]) :
    Calls Try.prog 81 #[.agg #[.int .u64 (x : Int), .int .u64 (y : Int)], .pointer (some ⟨g, 0, none⟩)] w fun e w' => e = .returned (.bool (decide (x = a) && decide (y = b))) ∧ Below w.heap.size w w' := by
  have B0 := hide_ (below1 w (.cells #[.int .u64 (x : Int), .int .u64 (y : Int)] 35))
  obtain ⟨c0, c1, c2, c3, c4, c5, -⟩ := (h.alloc (.cells #[.int .u64 (x : Int), .int .u64 (y : Int)] 35)).six
  clear h
  by_cases ex : x = a
  · subst ex
    by_cases ey : y = b
    · subst ey
      go_enter Try.func81, Try.ntmps81
      go_wp2_with fail
      go_ret
      exact ⟨by simp, B0.out⟩
    · have gy : ((y : Int) == (b : Int)) = false := by simp; omega
      go_enter Try.func81, Try.ntmps81
      go_wp2_with fail
      go_ret
      exact ⟨by simp [ey], B0.out⟩
  · have gx : ((x : Int) == (a : Int)) = false := by simp; omega
    go_enter Try.func81, Try.ntmps81
    go_wp2_with fail
    go_ret
    exact ⟨by simp [ex], B0.out⟩

set_option maxRecDepth 100000 in
set_option maxHeartbeats 4000000 in
theorem widx_any (v : Value) (vs : List Nat) (f : Int) (m : Bool) (a b c d : Nat) (g : Nat) (w : World) (hC : Cells w v 2 vs.length (wdc (lo vs))) (h : AB w g 51 [.int .i64 f, .bool m, .int .u64 (a : Int), .int .u64 (b : Int), .int .u64 (c : Int), .int .u64 (d : Int)]) :
    Calls Try.prog 106 #[v, (.func (.func 81) #[] #[.pointer (some ⟨g, 0, none⟩)])] w fun e w' => (∃ i : Int, e = .returned (.int .i64 i) ∧ (decide (0 ≤ i)) = vs.any (fun v => decide (0 = a) && decide (v = b))) ∧ Below w.heap.size w w' := by
  have hcc := hC
  obtain ⟨hxl, s, cap, rfl, hr⟩ := hcc
  obtain ⟨-, hm, -, hat⟩ := Cells.at hC
  have H := hide_ hat
  unfold maxLen at hm
  have HO := hide_ h
  clear hat hC hr h hxl
  go_enter Try.func106, Try.ntmps106
  go_wp2
  go_loopw [5, 8] (fun _ i wr => ∃ k : Nat, k ≤ vs.length ∧ i = .int .i64 k ∧ Hid ((vs.take k).any (fun v => decide (0 = a) && decide (v = b)) = false) ∧ Below w.heap.size w wr) (fun _ i _ => vs.length - (intOf i).toNat)
  case atStart => exact ⟨0, Nat.zero_le _, rfl, rfl, Below.refl _ _⟩
  case round =>
    obtain ⟨k, hk, rfl, HT, hb⟩ := hrel
    by_cases hlt : k < vs.length
    · obtain ⟨z, hz⟩ : ∃ z, vs[k]? = some z := ⟨_, List.getElem?_eq_getElem hlt⟩
      obtain ⟨e0, e1⟩ := lo_cell hz
      obtain ⟨q, off, rfl, c0⟩ := H.out _ _ e0
      obtain ⟨q', off', e', c1⟩ := H.out _ _ e1
      cases e'
      have c0 := cell_later hb c0
      have c1 := cell_later hb c1
      rw [← Nat.add_assoc] at c1
      have HZ := hide_ hz
      clear hz e0 e1
      have hlt' : (k : Int) < (vs.length : Int) := by omega
      have qc := hide_ (mclo_any 0 z f m a b c d g wr (HO.out.later hb))
      cases hh : (decide (0 = a) && decide (z = b))
      · rw [hh] at qc
        have HH := hide_ hh
        clear hh
        go_wp2_with (go_at_call 81; refine qc.out.mono ?_; rintro e w1 ⟨rfl, b1⟩)
        go_roundw
        case rel => exact ⟨k + 1, by omega, by go_num, by show _ = _; rw [List.take_add_one, HZ.out, List.any_append, HT.out]; simpa using HH.out, hb.trans (b1.mono hb.size)⟩
        case measure => simp [intOf]; omega
      · rw [hh] at qc
        have HH := hide_ hh
        clear hh
        go_wp2_with (go_at_call 81; refine qc.out.mono ?_; rintro e w1 ⟨rfl, b1⟩)
        go_ret
        refine ⟨⟨_, rfl, ?_⟩, hb.trans (b1.mono hb.size)⟩
        have e1 : vs.any (fun v => decide (0 = a) && decide (v = b)) = true := by
          rw [List.any_eq_true]
          exact ⟨z, List.mem_of_getElem? HZ.out, HH.out⟩
        rw [e1]
        simp
    · have hlt' : ¬ (k : Int) < (vs.length : Int) := by omega
      go_wp2
      go_ret
      refine ⟨⟨_, rfl, ?_⟩, hb⟩
      have e := HT.out
      rw [List.take_of_length_le (by omega)] at e
      rw [e]
      rfl

set_option maxRecDepth 100000 in
set_option maxHeartbeats 4000000 in
theorem wcont_any (v : Value) (vs : List Nat) (f : Int) (m : Bool) (a b c d : Nat) (g : Nat) (w : World) (hC : Cells w v 2 vs.length (wdc (lo vs))) (h : AB w g 51 [.int .i64 f, .bool m, .int .u64 (a : Int), .int .u64 (b : Int), .int .u64 (c : Int), .int .u64 (d : Int)]) :
    Calls Try.prog 80 #[v, (.func (.func 81) #[] #[.pointer (some ⟨g, 0, none⟩)])] w fun e w' => e = .returned (.bool (vs.any (fun v => decide (0 = a) && decide (v = b)))) ∧ Below w.heap.size w w' := by
  have q := hide_ (widx_any v vs f m a b c d g w hC h)
  generalize vs.any (fun v => decide (0 = a) && decide (v = b)) = z at *
  clear hC h
  go_enter Try.func80, Try.ntmps80
  go_wp2_with (go_at_call 106; refine q.out.mono ?_; rintro e w1 ⟨⟨i, rfl, hi⟩, b1⟩)
  go_ret
  exact ⟨by rw [← hi]; rfl, b1⟩

set_option maxRecDepth 100000 in
set_option maxHeartbeats 4000000 in
theorem meets_any (f : Int) (m : Bool) (a b c d : Nat) (nf : Int) (vs : List Nat) (s : Option Addr) (cap : Nat) (w : World) (hC : Cells w (.slice s vs.length cap) 2 vs.length (wdc (lo vs))) :
    Calls Try.prog 47 #[.agg #[.int .i64 f, .bool m, .int .u64 (a : Int), .int .u64 (b : Int), .int .u64 (c : Int), .int .u64 (d : Int)], .agg #[.int .i64 nf, .slice s vs.length cap]] w fun e w' => e = .returned (.bool (meetB f m a b nf vs)) ∧ Below w.heap.size w w' := by
  have B0 := hide_ (below2 w (.cells #[.int .i64 f, .bool m, .int .u64 (a : Int), .int .u64 (b : Int), .int .u64 (c : Int), .int .u64 (d : Int)] 51) (.cells #[.int .i64 nf, .slice s vs.length cap] 58))
  have O0 := hide_ ((AB.at0 w 51 [.int .i64 f, .bool m, .int .u64 (a : Int), .int .u64 (b : Int), .int .u64 (c : Int), .int .u64 (d : Int)]).alloc (.cells #[.int .i64 nf, .slice s vs.length cap] 58))
  have hm : vs.length ≤ 9223372036854775807 := by obtain ⟨-, h, -⟩ := Cells.at hC; unfold maxLen at h; omega
  have qc := hide_ (fun W (hW : Below ((w.alloc (.cells #[.int .i64 f, .bool m, .int .u64 (a : Int), .int .u64 (b : Int), .int .u64 (c : Int), .int .u64 (d : Int)] 51)).alloc (.cells #[.int .i64 nf, .slice s vs.length cap] 58)).heap.size ((w.alloc (.cells #[.int .i64 f, .bool m, .int .u64 (a : Int), .int .u64 (b : Int), .int .u64 (c : Int), .int .u64 (d : Int)] 51)).alloc (.cells #[.int .i64 nf, .slice s vs.length cap] 58)) W) => wcont_any _ vs f m a b c d w.heap.size W (hC.later (B0.out.trans (hW.mono B0.out.size))) (O0.out.later hW))
  obtain ⟨R, hR⟩ : ∃ R, meetB f m a b nf vs = R := ⟨_, rfl⟩
  rw [hR]
  unfold meetB at hR
  have HR := hide_ hR
  clear hR hC
  generalize vs.any (fun v => decide (0 = a) && decide (v = b)) = z at *
  by_cases hf : f = nf
  · subst hf
    by_cases h0 : vs.length = 0
    · have e : vs.isEmpty = true := by rw [List.isEmpty_iff]; exact List.eq_nil_of_length_eq_zero h0
      have h0' : ((vs.length : Int) == 0) = true := by simpa using h0
      have H0 := hide_ e
      clear e
      generalize vs.length = n at *
      subst h0
      go_enter Try.func47, Try.ntmps47
      go_wp2_with fail
      go_ret
      exact ⟨by rw [← HR.out, H0.out]; simp, B0.out⟩
    · have e : vs.isEmpty = false := by cases vs with | nil => simp at h0 | cons => rfl
      have h0' : ((vs.length : Int) == 0) = false := by simpa using h0
      have H0 := hide_ e
      clear e
      generalize vs.length = n at *
      cases m
      · go_enter Try.func47, Try.ntmps47
        go_wp2_with (go_at_call 80; refine (qc.out _ (Below.refl _ _)).mono ?_; rintro e w1 ⟨rfl, b1⟩)
        go_ret
        exact ⟨by rw [← HR.out, H0.out]; simp, B0.out.trans (b1.mono B0.out.size)⟩
      · go_enter Try.func47, Try.ntmps47
        go_wp2_with fail
        go_ret
        exact ⟨by rw [← HR.out, H0.out]; simp, B0.out⟩
  · have hf' : (f == nf) = false := by simpa using hf
    generalize vs.length = n at *
    go_enter Try.func47, Try.ntmps47
    go_wp2_with fail
    go_ret
    exact ⟨by rw [← HR.out]; simp [hf], B0.out⟩


end Go.Proofs.Ytcffebkebldjcaa
