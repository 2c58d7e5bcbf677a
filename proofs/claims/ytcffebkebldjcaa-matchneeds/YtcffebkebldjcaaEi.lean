import Derived.Test.YtcffebkebldjcaaPb
import Derived.Test.YtcffebkebldjcaaEd
import Derived.Test.YtcffebkebldjcaaEc
import Derived.Test.YtcffebkebldjcaaEf
import Derived.Test.YtcffebkebldjcaaOc
import Derived.Test.YtcffebkebldjcaaOh
import Derived.Test.YtcffebkebldjcaaOi
import Derived.Test.YtcffebkebldjcaaOzg
import Derived.Deep.RegionHeld3
import Derived.Deep.RegionWith
import Derived.Deep.MidRow
import Derived.Deep.Cut
namespace Go.Proofs.Ytcffebkebldjcaa
open Go Go.RowKit
set_option linter.unusedVariables false
set_option linter.unusedSimpArgs false

def rgtO (o : O6) : Bool := rgt o.1 o.2.1 o.2.2.1 o.2.2.2.1 o.2.2.2.2.1 o.2.2.2.2.2
def encO (o : O6) : List Int := encL o.1 o.2.1 o.2.2.1 o.2.2.2.1 o.2.2.2.2.1 o.2.2.2.2.2
def encs (L : List O6) : List Int := L.flatMap encO
def Fit (L : List O6) : Prop := ∀ (i : Nat) (f : Int) (m : Bool) (a b c d : Nat), L[i]? = some (f, m, a, b, c, d) → a < 18446744073709551616 ∧ b < 18446744073709551616 ∧ c < 18446744073709551616 ∧ d < 18446744073709551616
/-- a match's bytes -/
def mencL (L : List O6) : List Int := spl 1 2 ++ spl ((4 + (encs L).length : Nat) : Int) 2 ++ (encs L ++ List.replicate (r8 (4 + (encs L).length) - (4 + (encs L).length)) 0)
theorem encO_le (o : O6) : (encO o).length ≤ 36 := by
  obtain ⟨f, m, a, b, c, d⟩ := o
  have h1 := cl_le (fsize f : Int) 16
  unfold encO encL
  cases m
  · simp only [List.append_nil, List.length_append, spl_len2, spl_len1, wtail_length]; omega
  · simp only [List.length_append, spl_len2, spl_len1, wtail_length]; omega
theorem encs_le (L : List O6) : (encs L).length ≤ L.length * 36 := by
  induction L with
  | nil => simp [encs]
  | cons o r ih =>
    have := encO_le o
    simp [encs] at ih ⊢
    omega
theorem encs_snoc (L : List O6) (o : O6) : encs (L ++ [o]) = encs L ++ encO o := by simp [encs]

set_option maxRecDepth 100000 in
set_option maxHeartbeats 4000000 in
theorem eclo_any (of : Int) (om : Bool) (oa ob oc od : Nat) (w : World) (ha : oa < 18446744073709551616) (hb : ob < 18446744073709551616) (hc : oc < 18446744073709551616) (hd : od < 18446744073709551616) :
    Calls Try.prog 30 #[.agg #[.int .i64 of, .bool om, .int .u64 (oa : Int), .int .u64 (ob : Int), .int .u64 (oc : Int), .int .u64 (od : Int)]] w fun e w' => e = .returned (.bool (!rgt of om oa ob oc od)) ∧ Below w.heap.size w w' := by
  have B0 := hide_ (below1 w (.cells #[.int .i64 of, .bool om, .int .u64 (oa : Int), .int .u64 (ob : Int), .int .u64 (oc : Int), .int .u64 (od : Int)] 51))
  have q := hide_ (fun w => oright_any of om oa ob oc od w ha hb hc hd)
  unfold ov at q
  generalize rgt of om oa ob oc od = z at *
  clear ha hb hc hd
  go_enter Try.func30, Try.ntmps30
  go_wp2_with (go_at_call 25; refine (q.out _).mono ?_; rintro e w1 ⟨rfl, b1⟩)
  go_ret
  exact ⟨rfl, B0.out.trans (b1.mono B0.out.size)⟩

set_option maxRecDepth 100000 in
set_option maxHeartbeats 4000000 in
theorem eidx_any (v : Value) (L : List O6) (w : World) (hL : OxAt w v L) (h : Fit L) :
    Calls Try.prog 55 #[v, (.func (.func 30) #[] #[])] w fun e w' => (∃ i : Int, e = .returned (.int .i64 i) ∧ (decide (0 ≤ i)) = L.any (fun t => !rgtO t)) ∧ Below w.heap.size w w' := by
  obtain ⟨s, cap, rfl, h1, h2, h3, h4⟩ := hL
  have H := hide_ h4
  have hm : L.length ≤ 9223372036854775807 := by unfold maxLen at h2; omega
  have HO := hide_ h
  clear h1 h2 h3 h4 h
  go_enter Try.func55, Try.ntmps55
  go_wp2
  go_loopw [5, 8] (fun _ i wr => ∃ k : Nat, k ≤ L.length ∧ i = .int .i64 k ∧ Hid ((L.take k).any (fun t => !rgtO t) = false) ∧ Below w.heap.size w wr) (fun _ i _ => L.length - (intOf i).toNat)
  case atStart => exact ⟨0, Nat.zero_le _, rfl, rfl, Below.refl _ _⟩
  case round =>
    obtain ⟨k, hk, rfl, HT, hb⟩ := hrel
    by_cases hlt : k < L.length
    · obtain ⟨⟨of, om, oa, ob, oc, od⟩, hz⟩ : ∃ z, L[k]? = some z := ⟨_, List.getElem?_eq_getElem hlt⟩
      obtain ⟨q, off, rfl, d0, d1, d2, d3, d4, d5⟩ := H.out k of om oa ob oc od hz
      have d0 := cell_later hb d0
      have d1 := cell_later hb d1
      have d2 := cell_later hb d2
      have d3 := cell_later hb d3
      have d4 := cell_later hb d4
      have d5 := cell_later hb d5
      have HZ := hide_ hz
      have hlt' : (k : Int) < (L.length : Int) := by omega
      obtain ⟨r1, r2, r3, r4⟩ := HO.out k of om oa ob oc od hz
      have qc := hide_ (eclo_any of om oa ob oc od wr r1 r2 r3 r4)
      clear r1 r2 r3 r4
      clear hz
      cases hh : !rgt of om oa ob oc od
      · rw [hh] at qc
        have HH := hide_ hh
        clear hh
        go_wp2_with (go_at_call 30; refine qc.out.mono ?_; rintro e w1 ⟨rfl, b1⟩)
        go_roundw
        case rel => exact ⟨k + 1, by omega, by go_num, by show _ = _; rw [List.take_add_one, HZ.out, List.any_append, HT.out]; simpa [rgtO] using HH.out, hb.trans (b1.mono hb.size)⟩
        case measure => simp [intOf]; omega
      · rw [hh] at qc
        have HH := hide_ hh
        clear hh
        go_wp2_with (go_at_call 30; refine qc.out.mono ?_; rintro e w1 ⟨rfl, b1⟩)
        go_ret
        refine ⟨⟨_, rfl, ?_⟩, hb.trans (b1.mono hb.size)⟩
        have e1 : L.any (fun t => !rgtO t) = true := by
          rw [List.any_eq_true]
          exact ⟨_, List.mem_of_getElem? HZ.out, HH.out⟩
        rw [e1]
        simp
    · have hlt' : ¬ (k : Int) < (L.length : Int) := by omega
      go_wp2
      go_ret
      refine ⟨⟨_, rfl, ?_⟩, hb⟩
      have e := HT.out
      rw [List.take_of_length_le (by omega)] at e
      rw [e]
      rfl

set_option maxRecDepth 100000 in
set_option maxHeartbeats 4000000 in
theorem econt_any (v : Value) (L : List O6) (w : World) (hL : OxAt w v L) (h : Fit L) :
    Calls Try.prog 23 #[v, (.func (.func 30) #[] #[])] w fun e w' => e = .returned (.bool (L.any (fun t => !rgtO t))) ∧ Below w.heap.size w w' := by
  have q := hide_ (eidx_any v L w hL h)
  generalize L.any (fun t => !rgtO t) = z at *
  clear hL h
  go_enter Try.func23, Try.ntmps23
  go_wp2_with (go_at_call 55; refine q.out.mono ?_; rintro e w1 ⟨⟨i, rfl, hi⟩, b1⟩)
  go_ret
  exact ⟨by rw [← hi]; rfl, b1⟩

set_option maxRecDepth 100000 in
set_option maxHeartbeats 8000000 in
theorem menc_no1 (v : Value) (L : List O6) (w : World) (hL : OxAt w v L) (hF : Fit L) (h : L.any (fun t => !rgtO t) = true) :
    Calls Try.prog 9 #[v] w fun e w' => e = .returned (.tuple #[.slice none 0 0, .int .i64 1]) ∧ Below w.heap.size w w' := by
  have qc := econt_any v L w hL hF
  have qk := fun W hW => mcheck_any v L W (hL.later (w' := W) hW)
  have hf := fun x y z w => fldF x y z w
  rw [h] at qc
  have qc := hide_ qc
  clear hL hF h qk
  go_enter Try.func9, Try.ntmps9
  go_wp2_with (go_at_call 23; refine qc.out.mono ?_; rintro e w1 ⟨rfl, b1⟩)
  go_ret2
  exact ⟨rfl, b1⟩

set_option maxRecDepth 100000 in
set_option maxHeartbeats 8000000 in
theorem menc_no2 (v : Value) (L : List O6) (w : World) (hL : OxAt w v L) (hF : Fit L) (cc : Int) (h : L.any (fun t => !rgtO t) = false) (hk : fo4 (mchk [] L) = .agg #[.bool true, .int .i64 4, .int .i64 cc]) :
    Calls Try.prog 9 #[v] w fun e w' => e = .returned (.tuple #[.slice none 0 0, .int .i64 1]) ∧ Below w.heap.size w w' := by
  have qc := econt_any v L w hL hF
  have qk := fun W hW => mcheck_any v L W (hL.later (w' := W) hW)
  have hf := fun x y z w => fldF x y z w
  rw [h] at qc
  rw [hk] at qk
  have qc := hide_ qc
  have qk := hide_ qk
  clear hL hF h hk
  go_enter Try.func9, Try.ntmps9
  go_wp2_with (first | (go_at_call 23; refine qc.out.mono ?_; rintro e w1 ⟨rfl, b1⟩) | (go_at_call 12; refine (qk.out _ b1).mono ?_; rintro e w2 ⟨rfl, b2⟩))
  go_ret2
  exact ⟨rfl, b1.trans (b2.mono b1.size)⟩


end Go.Proofs.Ytcffebkebldjcaa
