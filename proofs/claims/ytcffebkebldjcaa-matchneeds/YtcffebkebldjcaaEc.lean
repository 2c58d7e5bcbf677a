import Derived.Test.YtcffebkebldjcaaEa
import Derived.Test.YtcffebkebldjcaaEb
import Derived.Test.YtcffebkebldjcaaOz
import Derived.Deep.RegionHeld3
import Derived.Deep.RegionWith
import Derived.Deep.MidRow
import Derived.Deep.Cut
namespace Go.Proofs.Ytcffebkebldjcaa
open Go Go.RowKit
set_option linter.unusedVariables false
set_option linter.unusedSimpArgs false

/-- what is wrong with parts beside one another, those of pre being told ahead -/
def mchk : List O6 → List O6 → Option Int
  | _, [] => none
  | pre, o :: r => if pre.any (fun t => decide (t.1 = o.1)) then some 10 else if metB pre o.1 then mchk (pre ++ [o]) r else some 9
def fo4 (o : Option Int) : Value := fv o.isSome (if o.isSome then 4 else 0) (o.getD 0)
theorem mchk_drop {L : List O6} {k : Nat} {o : O6} (h : L[k]? = some o) : mchk (L.take k) (L.drop k) = if (L.take k).any (fun t => decide (t.1 = o.1)) then some 10 else if metB (L.take k) o.1 then mchk (L.take (k + 1)) (L.drop (k + 1)) else some 9 := by
  obtain ⟨hk, e⟩ := List.getElem?_eq_some_iff.1 h
  rw [List.drop_eq_getElem_cons hk, e, List.take_add_one, h]
  rfl
theorem ox_slice {w : World} {s : Option Addr} {n cap : Nat} {L : List O6} (h : OxAt w (.slice s n cap) L) (k : Nat) (hk : k ≤ L.length) (wx : World) : (Instr.slice 22 (.slice s n cap) none (some (.int .i64 (k : Int))) none).run Try.prog wx = .ok (.slice s k cap) wx := by
  obtain ⟨s', cap', e, h1, h2, h3, h4⟩ := h
  cases e
  have sz : ∀ w, (sizeOf (Try.prog.elem 22)).run Try.prog w = .ok 6 w := fun w => by kernel_rfl
  rw [run_slice_h wx 22 s L.length cap (by kernel_rfl) .i64 (k : Int) (by omega) (by omega), sz]
  have : s.map (fun x => x.add 0) = s := by cases s <;> simp [add_zero_addr]
  simp [sliced, this]

set_option maxRecDepth 100000 in
set_option maxHeartbeats 4000000 in
theorem cclo_any (of : Int) (om : Bool) (oa ob oc od : Nat) (f : Int) (m : Bool) (a b c d : Nat) (g : Nat) (w : World) (h : AB w g 51 [.int .i64 f, .bool m, .int .u64 (a : Int), .int .u64 (b : Int), .int .u64 (c : Int), .int .u64 (d : Int)]) :
    Calls Try.prog 36 #[.agg #[.int .i64 of, .bool om, .int .u64 (oa : Int), .int .u64 (ob : Int), .int .u64 (oc : Int), .int .u64 (od : Int)], .pointer (some ⟨g, 0, none⟩)] w fun e w' => e = .returned (.bool (decide (of = f))) ∧ Below w.heap.size w w' := by
  have B0 := hide_ (below1 w (.cells #[.int .i64 of, .bool om, .int .u64 (oa : Int), .int .u64 (ob : Int), .int .u64 (oc : Int), .int .u64 (od : Int)] 51))
  obtain ⟨c0, c1, c2, c3, c4, c5, -⟩ := (h.alloc (.cells #[.int .i64 of, .bool om, .int .u64 (oa : Int), .int .u64 (ob : Int), .int .u64 (oc : Int), .int .u64 (od : Int)] 51)).six
  clear h
  go_enter Try.func36, Try.ntmps36
  go_wp2_with fail
  go_ret
  exact ⟨congrArg (fun z => Ending.returned (Value.bool z)) (by rw [Bool.eq_iff_iff]; simp), B0.out⟩

set_option maxRecDepth 100000 in
set_option maxHeartbeats 4000000 in
theorem oidx_any (v : Value) (L : List O6) (f : Int) (m : Bool) (a b c d : Nat) (g : Nat) (w : World) (hL : OxAt w v L) (h : AB w g 51 [.int .i64 f, .bool m, .int .u64 (a : Int), .int .u64 (b : Int), .int .u64 (c : Int), .int .u64 (d : Int)]) :
    Calls Try.prog 55 #[v, (.func (.func 36) #[] #[.pointer (some ⟨g, 0, none⟩)])] w fun e w' => (∃ i : Int, e = .returned (.int .i64 i) ∧ (decide (0 ≤ i)) = L.any (fun t => decide (t.1 = f))) ∧ Below w.heap.size w w' := by
  obtain ⟨s, cap, rfl, h1, h2, h3, h4⟩ := hL
  have H := hide_ h4
  have hm : L.length ≤ 9223372036854775807 := by unfold maxLen at h2; omega
  have HO := hide_ h
  clear h1 h2 h3 h4 h
  go_enter Try.func55, Try.ntmps55
  go_wp2
  go_loopw [5, 8] (fun _ i wr => ∃ k : Nat, k ≤ L.length ∧ i = .int .i64 k ∧ Hid ((L.take k).any (fun t => decide (t.1 = f)) = false) ∧ Below w.heap.size w wr) (fun _ i _ => L.length - (intOf i).toNat)
  case atStart => exact ⟨0, Nat.zero_le _, rfl, rfl, Below.refl _ _⟩
  case round =>
    obtain ⟨k, hk, rfl, HT, hb⟩ := hrel
    by_cases hlt : k < L.length
    · obtain ⟨⟨of, om, oa, ob, oc, od⟩, hz⟩ : ∃ z, L[k]? = some z := ⟨_, List.getElem?_eq_getElem hlt⟩
      obtain ⟨q, off, rfl, d0, d1, d2, d3, d4, d5⟩ := H.out k of om oa ob oc od hz
      have d0 := cell_later hb d0
      have d1 := cell_later hb d1
      have d2 := cell_later hb d2
      have d3 := cell_later hb d3
      have d4 := cell_later hb d4
      have d5 := cell_later hb d5
      have HZ := hide_ hz
      clear hz
      have hlt' : (k : Int) < (L.length : Int) := by omega
      have qc := hide_ (cclo_any of om oa ob oc od f m a b c d g wr (HO.out.later hb))
      cases hh : decide (of = f)
      · rw [hh] at qc
        have HH := hide_ hh
        clear hh
        go_wp2_with (go_at_call 36; refine qc.out.mono ?_; rintro e w1 ⟨rfl, b1⟩)
        go_roundw
        case rel => exact ⟨k + 1, by omega, by go_num, by show _ = _; rw [List.take_add_one, HZ.out, List.any_append, HT.out]; simpa using HH.out, hb.trans (b1.mono hb.size)⟩
        case measure => simp [intOf]; omega
      · rw [hh] at qc
        have HH := hide_ hh
        clear hh
        go_wp2_with (go_at_call 36; refine qc.out.mono ?_; rintro e w1 ⟨rfl, b1⟩)
        go_ret
        refine ⟨⟨_, rfl, ?_⟩, hb.trans (b1.mono hb.size)⟩
        have e1 : L.any (fun t => decide (t.1 = f)) = true := by
          rw [List.any_eq_true]
          exact ⟨_, List.mem_of_getElem? HZ.out, HH.out⟩
        rw [e1]
        simp
    · have hlt' : ¬ (k : Int) < (L.length : Int) := by omega
      go_wp2
      go_ret
      refine ⟨⟨_, rfl, ?_⟩, hb⟩
      have e := HT.out
      rw [List.take_of_length_le (by omega)] at e
      rw [e]
      rfl

set_option maxRecDepth 100000 in
set_option maxHeartbeats 4000000 in
theorem ocont_any (v : Value) (L : List O6) (f : Int) (m : Bool) (a b c d : Nat) (g : Nat) (w : World) (hL : OxAt w v L) (h : AB w g 51 [.int .i64 f, .bool m, .int .u64 (a : Int), .int .u64 (b : Int), .int .u64 (c : Int), .int .u64 (d : Int)]) :
    Calls Try.prog 23 #[v, (.func (.func 36) #[] #[.pointer (some ⟨g, 0, none⟩)])] w fun e w' => e = .returned (.bool (L.any (fun t => decide (t.1 = f)))) ∧ Below w.heap.size w w' := by
  have q := hide_ (oidx_any v L f m a b c d g w hL h)
  generalize L.any (fun t => decide (t.1 = f)) = z at *
  clear hL h
  go_enter Try.func23, Try.ntmps23
  go_wp2_with (go_at_call 55; refine q.out.mono ?_; rintro e w1 ⟨⟨i, rfl, hi⟩, b1⟩)
  go_ret
  exact ⟨by rw [← hi]; rfl, b1⟩

set_option maxRecDepth 100000 in
set_option maxHeartbeats 4000000 in
theorem mrefuse_any (k : Int) (w : World) :
    Calls Try.prog 37 #[.int .i64 k] w fun e w' => e = .returned (.agg #[.bool true, .int .i64 4, .int .i64 k]) ∧ Below w.heap.size w w' := by
  have Z0 := AB.at0 w 30 [.bool false, .int .i64 0, .int .i64 0]
  have HB := below1 w (.cells #[.bool false, .int .i64 0, .int .i64 0] 30)
  obtain ⟨c0, c1, c2, f0, f1, f2⟩ := Z0.three
  have Z1 := Z0.set3 (.bool true) (.int .i64 4) (.int .i64 k)
  obtain ⟨h0, h1, h2, -⟩ := Z1.three
  clear Z0 Z1 HB
  go_enter Try.func37, Try.ntmps37
  go_wp2
  exact bodyPost_ret (v := .agg #[.bool true, .int .i64 4, .int .i64 k]) (by simp [results, Try.results37, go_sem]) rfl ⟨rfl, by go_grown⟩

set_option maxRecDepth 100000 in
set_option maxHeartbeats 4000000 in
theorem rmbad_any (k : Int) (w : World) :
    Calls Try.prog 38 #[.int .i64 k] w fun e w' => e = .returned (.agg #[.bool true, .int .i64 4, .int .i64 k]) ∧ Below w.heap.size w w' := by
  have Z0 := AB.at0 w 30 [.bool false, .int .i64 0, .int .i64 0]
  have HB := below1 w (.cells #[.bool false, .int .i64 0, .int .i64 0] 30)
  obtain ⟨c0, c1, c2, f0, f1, f2⟩ := Z0.three
  have Z1 := Z0.set3 (.bool true) (.int .i64 4) (.int .i64 k)
  obtain ⟨h0, h1, h2, -⟩ := Z1.three
  clear Z0 Z1 HB
  go_enter Try.func38, Try.ntmps38
  go_wp2
  exact bodyPost_ret (v := .agg #[.bool true, .int .i64 4, .int .i64 k]) (by simp [results, Try.results38, go_sem]) rfl ⟨rfl, by go_grown⟩


end Go.Proofs.Ytcffebkebldjcaa
